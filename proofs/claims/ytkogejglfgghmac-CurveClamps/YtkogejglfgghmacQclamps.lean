import Derived.Test.YtkogejglfgghmacRows
import Derived.Test.YtkogejglfgghmacOpen
import Derived.Test.YtkogejglfgghmacCw
import Derived.WalkKit
import Derived.ProofKit
import Derived.OpenShut
import Derived.ShutString
import Derived.ChangeOld
import Derived.Below
namespace Go.Proofs.Ytkogejglfgghmac
open Go.ChangeShapes Go.WideShapes Go.ChangeAt Go.RowKit

theorem own : ownKnob Try.prog.godebug = none := by kernel_rfl
theorem laidOut : laidOutB Try.prog = true := by kernel_rfl
theorem cellsKey : Try.prog.cellsOf 23 = 32 := by kernel_rfl
theorem key_of_list (l : List Int) (hl : l.length = 32) (wl : ∀ x ∈ l, (Lit.int .u8 x).wf = true) : ∃ N, KeyOf (l.map (Value.int .u8)).toArray N := by
  obtain ⟨b0, b1, b2, b3, b4, b5, b6, b7, b8, b9, b10, b11, b12, b13, b14, b15, b16, b17, b18, b19, b20, b21, b22, b23, b24, b25, b26, b27, b28, b29, b30, b31, rfl⟩ := list32 l hl
  have bd : ∀ x ∈ [b0, b1, b2, b3, b4, b5, b6, b7, b8, b9, b10, b11, b12, b13, b14, b15, b16, b17, b18, b19, b20, b21, b22, b23, b24, b25, b26, b27, b28, b29, b30, b31], 0 ≤ x ∧ x < 256 := fun x hx => u8_of_wf (wl x hx)
  exact ⟨_, b0, b1, b2, b3, b4, b5, b6, b7, b8, b9, b10, b11, b12, b13, b14, b15, b16, b17, b18, b19, b20, b21, b22, b23, b24, b25, b26, b27, b28, b29, b30, b31, rfl, ⟨bd b0 (by simp), bd b1 (by simp), bd b2 (by simp), bd b3 (by simp), bd b4 (by simp), bd b5 (by simp), bd b6 (by simp), bd b7 (by simp), bd b8 (by simp), bd b9 (by simp), bd b10 (by simp), bd b11 (by simp), bd b12 (by simp), bd b13 (by simp), bd b14 (by simp), bd b15 (by simp), bd b16 (by simp), bd b17 (by simp), bd b18 (by simp), bd b19 (by simp), bd b20 (by simp), bd b21 (by simp), bd b22 (by simp), bd b23 (by simp), bd b24 (by simp), bd b25 (by simp), bd b26 (by simp), bd b27 (by simp), bd b28 (by simp), bd b29 (by simp), bd b30 (by simp), bd b31 (by simp)⟩, rfl⟩

set_option maxRecDepth 100000 in
theorem curveClamps_lifted (os : Os) (started : os.Started) (H : Type) (enc : TypeId × Value → H) :
    ReturnsInHanded {} Try.checked os 3 .any (Rows.curveClampsSpec.pre6 enc Try.prog Try.f3 Rows.curveClampsRow.domain false) (Rows.curveClampsSpec.post enc Try.prog Try.f3 false true false false) := by
  refine returnsInHanded_of_change (C := Try.checked) own started (by kernel_rfl) Try.func3
    (ChangeSpec.witness6 (enc := enc) (C := Try.checked) false ⟨#[], #[.agg #[.int .u8 0, .int .u8 0, .int .u8 0, .int .u8 0, .int .u8 0, .int .u8 0, .int .u8 0, .int .u8 0, .int .u8 0, .int .u8 0, .int .u8 0, .int .u8 0, .int .u8 0, .int .u8 0, .int .u8 0, .int .u8 0, .int .u8 0, .int .u8 0, .int .u8 0, .int .u8 0, .int .u8 0, .int .u8 0, .int .u8 0, .int .u8 0, .int .u8 0, .int .u8 0, .int .u8 0, .int .u8 0, .int .u8 0, .int .u8 0, .int .u8 0, .int .u8 0]], []⟩ 8 (by kernel_rfl) (by kernel_rfl) (by kernel_rfl) (by kernel_rfl)) ?_
  intro W base args ds gs before hval0 hW hcnd _
  have hval : ∀ (j : Nat) t v, Try.f3.params[j]? = some t → args[j]? = some v → Value.okWide Try.prog W .any base t v := hval0
  have hW' := hW
  obtain ⟨p, q, hA0, hV, rfl, hfz, hnd⟩ := hW
  have hA : DataW.TrodAll enc Try.prog W 0 (fun _ => true) true Try.f3.params.toList args.toList ds p := hA0
  rw [Try.params3] at hA hval
  obtain ⟨v0, vs0, d0, ds0, p0, q0, hargs, rfl, rfl, h0, r0⟩ := trodAll_cons hA
  obtain ⟨rfl, rfl, rfl⟩ := trodAll_nil r0
  obtain rfl : args = #[v0] := by cases args; simp_all
  obtain ⟨rfl, rfl⟩ := trodVars_none hV
  have k0 := h0
  have lt0 : ∀ x ∈ p0, x.block < W.heap.size := by obtain ⟨m, hm⟩ := k0; exact DataW.trod_lt m _ _ _ hm
  obtain ⟨l0, hl0, rfl, wl0⟩ := open_array Try.underlying23 Try.underlying5 Try.cellsU8 cellsKey (hval 0 23 v0 rfl rfl) h0
  obtain ⟨N0, K0⟩ := key_of_list l0 hl0 wl0
  clear hA0 hval0
  refine (clamps_any K0 W).mono fun e W' ⟨he, bel⟩ => ?_
  subst he
  exact ⟨_, rfl, _, _, _, [], _, [], hW', trodAll_mk1 (shut_bool Try.underlying4 _), (trodAll_cons_mk (Below.trod laidOut (by kernel_rfl) (of_decide_eq_true (by kernel_rfl)) k0 bel lt0) trodAll_mk0), rfl, bel.frame _, fun h => by cases h⟩

theorem curveClamps_holds : Rows.CurveClampsSaid :=
  OpenClaim.holds_of_wide 3 Try.f3 rfl rfl rfl rfl rfl rfl rfl ⟨rfl, rfl, rfl, rfl, rfl⟩ rfl rfl rfl rfl rfl (by kernel_rfl) Try.func3 (by kernel_rfl)
    (of_decide_eq_true (by kernel_rfl)) (by unfold Func.isWrapper; first | (rw [if_pos (by decide +kernel)]; kernel_rfl) | (rw [if_neg (by decide +kernel)]; exact ⟨rfl, rfl⟩))
    (fun os started H enc _ => curveClamps_lifted os started H enc)
#print axioms curveClamps_holds
end Go.Proofs.Ytkogejglfgghmac

