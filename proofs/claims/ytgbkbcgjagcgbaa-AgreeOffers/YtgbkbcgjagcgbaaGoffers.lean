import Derived.Test.YtgbkbcgjagcgbaaRows
import Derived.Test.YtgbkbcgjagcgbaaOpen
import Derived.Test.YtgbkbcgjagcgbaaAgc
import Derived.Test.YtgbkbcgjagcgbaaAgd
import Derived.WalkKit
import Derived.ProofKit
import Derived.OpenShut
import Derived.ShutString
import Derived.ChangeOld
import Derived.ChangeSlices
import Derived.SizedLaws
import Derived.Below
namespace Go.Proofs.Ytgbkbcgjagcgbaa
open Go.ChangeShapes Go.WideShapes Go.ChangeAt Go.RowKit

theorem own : ownKnob Try.prog.godebug = none := by kernel_rfl
theorem laidOut : laidOutB Try.prog = true := by kernel_rfl

set_option maxRecDepth 100000 in
theorem agreeOffers_lifted (os : Os) (started : os.Started) (H : Type) (enc : TypeId × Value → H) :
    ReturnsInHanded {} Try.checked os 3 .any (Rows.agreeOffersSpec.pre6 enc Try.prog Try.f3 Rows.agreeOffersRow.domain false) (Rows.agreeOffersSpec.post enc Try.prog Try.f3 false true false false) := by
  refine returnsInHanded_of_change_sized (C := Try.checked) own started (by kernel_rfl) Try.func3
    (ChangeSpec.witness6 (enc := enc) (C := Try.checked) false ⟨#[], #[.agg (psrow (zr 32) (zr 32) (zr 32) (zr 32) (zr 32) (zr 32) false)], []⟩ 8 (by kernel_rfl) (by kernel_rfl) (by kernel_rfl) (by kernel_rfl)) ?_
  intro W base args ds gs before hval0 hW hcnd hsz0 _
  have hval : ∀ (j : Nat) t v, Try.f3.params[j]? = some t → args[j]? = some v → Value.okWide Try.prog W .any base t v := hval0
  have hsz : (DataW.weightsEach Try.prog (Try.f3.params.toList ++ Rows.agreeOffersSpec.plain.varTypes Try.prog) (ds ++ gs)).all (· ≤ reachBytes) = true := hsz0
  have hW' := hW
  obtain ⟨p, q, hA0, hV, rfl, hfz, hnd⟩ := hW
  have hA : DataW.TrodAll enc Try.prog W 0 (fun _ => true) true Try.f3.params.toList args.toList ds p := hA0
  rw [Try.params3] at hA hval hsz
  obtain ⟨v0, vs0, d0, ds0, p0, q0, hargs, rfl, rfl, h0, r0⟩ := trodAll_cons hA
  obtain ⟨rfl, rfl, rfl⟩ := trodAll_nil r0
  obtain rfl : args = #[v0] := by cases args; simp_all
  obtain ⟨rfl, rfl⟩ := trodVars_none hV
  have k0 := h0
  have lt0 : ∀ x ∈ p0, x.block < W.heap.size := by obtain ⟨m, hm⟩ := k0; exact DataW.trod_lt m _ _ _ hm
  obtain ⟨cs0, rfl, _⟩ := okWide_struct Try.underlying27 (hval 0 27 v0 rfl rfl)
  obtain ⟨ia0, ib0, sa0, sb0, oa0, ob0, hb0, k_ia0, k_ib0, k_sa0, k_sb0, k_oa0, k_ob0, ea0⟩ : ∃ (ia : List Int) (ib : List Int) (sa : List Int) (sb : List Int) (oa : List Int) (ob : List Int) (h : Bool), K8 ia ∧ K8 ib ∧ K8 sa ∧ K8 sb ∧ K8 oa ∧ K8 ob ∧ cs0.toList = (psrow ia ib sa sb oa ob h).toList := by
    obtain ⟨m, hm⟩ := h0
    exact ps_of_trod hm
  obtain rfl : cs0 = psrow ia0 ib0 sa0 sb0 oa0 ob0 hb0 := Array.ext' ea0
  clear hA0 hval0
  refine (offers_any ia0 ib0 sa0 sb0 oa0 ob0 hb0 k_ia0.1 k_ib0.1 k_sa0.1 k_sb0.1 k_oa0.1 k_ob0.1 W).mono fun e W' ⟨he, bel⟩ => ?_
  subst he
  exact ⟨_, rfl, _, _, _, [], _, [], hW', trodAll_mk1 (shut_bool Try.underlying4 _), (trodAll_cons_mk (Below.trod laidOut (by kernel_rfl) (of_decide_eq_true (by kernel_rfl)) k0 bel lt0) trodAll_mk0), rfl, bel.frame _, fun h => by cases h⟩

theorem agreeOffers_holds : Rows.AgreeOffersSaid :=
  OpenClaim.holds_of_wide 3 Try.f3 rfl rfl rfl rfl rfl rfl rfl ⟨rfl, rfl, rfl, rfl, rfl⟩ rfl rfl rfl rfl rfl (by kernel_rfl) Try.func3 (by kernel_rfl)
    (of_decide_eq_true (by kernel_rfl)) (by unfold Func.isWrapper; first | (rw [if_pos (by decide +kernel)]; kernel_rfl) | (rw [if_neg (by decide +kernel)]; exact ⟨rfl, rfl⟩))
    (fun os started H enc _ => agreeOffers_lifted os started H enc)

#print axioms agreeOffers_holds
end Go.Proofs.Ytgbkbcgjagcgbaa

