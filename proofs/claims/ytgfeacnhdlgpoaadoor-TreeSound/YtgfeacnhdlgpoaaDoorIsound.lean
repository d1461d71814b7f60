import Derived.Test.YtgfeacnhdlgpoaaDoorRows
import Derived.Test.YtgfeacnhdlgpoaaDoorTie
import Derived.Test.YtgfeacnhdlgpoaaDoorCards
import Derived.Test.YtgfeacnhdlgpoaaDoorHol
import Derived.Test.YtgfeacnhdlgpoaaDoorOpen
import Derived.Test.YtgfeacnhdlgpoaaDoorTyf
import Derived.Test.YtgfeacnhdlgpoaaDoorTrp
import Derived.WalkKit
import Derived.ProofKit
import Derived.OpenShut
import Derived.ShutString
import Derived.ChangeOld
import Derived.ChangeSlices
import Derived.SizedLaws
import Derived.Below
import Derived.LaidMore
import Derived.Lay
import Derived.Stop.Joined
import Derived.SevenTiedAt
namespace Go.Proofs.YtgfeacnhdlgpoaaDoor
set_option maxRecDepth 100000
open Go.ChangeShapes Go.WideShapes Go.ChangeAt Go.RowKit

theorem own : ownKnob Tryd.prog.godebug = none := by kernel_rfl
theorem laidOut : laidOutB Tryd.prog = true := by kernel_rfl
theorem door_met (os : Os) (args : Array Value) : laidMetH Tryd.prog [("pawl/hash.start", Rows.laid_pawl_hash_start), ("pawl/hash.constants", Rows.laid_pawl_hash_constants)] ((World.doorLaid Tryd.prog 400 os).forCall (fun _ _ => 0) ⟨#[], args, []⟩).memory :=
  laidMetH_of_parts3 (fuel := 8) (laidMet_of_run' 8 (by kernel_rfl) (by kernel_rfl)) (by kernel_rfl) (by kernel_rfl)

set_option maxRecDepth 100000 in
theorem treeSound_lifted (os : Os) (started : os.Started) (H : Type) (enc : TypeId × Value → H) :
    ReturnsInHanded {} Tryd.checked os 9 .any (fun w args => (Rows.treeSoundSpec.pre enc Tryd.prog Tryd.f9 [] false w args ∧ laidMetH Tryd.prog [("pawl/hash.start", Rows.laid_pawl_hash_start), ("pawl/hash.constants", Rows.laid_pawl_hash_constants)] w) ∧ sizedMet enc Tryd.prog Tryd.f9 (OpenSpec.ofChange Rows.treeSoundSpec) false w args)
      (Rows.treeSoundSpec.post enc Tryd.prog Tryd.f9 false true false false) := by
  refine returnsInHanded_of_change_and (C := Tryd.checked) (X := fun w _ => laidMetH Tryd.prog [("pawl/hash.start", Rows.laid_pawl_hash_start), ("pawl/hash.constants", Rows.laid_pawl_hash_constants)] w) (fun _ _ _ hh h => h.of_heap hh) own started (by kernel_rfl) Tryd.func9
    (ChangeSpec.witness_shaped (enc := enc) (C := Tryd.checked) (os := os) (X := fun w _ => laidMetH Tryd.prog [("pawl/hash.start", Rows.laid_pawl_hash_start), ("pawl/hash.constants", Rows.laid_pawl_hash_constants)] w) false (World.doorLaid Tryd.prog 400 os) #[.slice none 0 0, .agg (plrow (zr 32) (zr 32) 0 0 (.slice none 0 0)), .agg (plrow (zr 32) (zr 32) 0 0 (.slice none 0 0))] 8 rfl (World.shaped_of_RefB (by kernel_rfl) (by kernel_rfl)) (by kernel_rfl) (by kernel_rfl) (by kernel_rfl) (door_met os _)) ?_
  intro W base args ds gs before hval0 hW _ hsz0 hL _
  have hval : ∀ (j : Nat) t v, Tryd.f9.params[j]? = some t → args[j]? = some v → Value.okWide Tryd.prog W .any base t v := hval0
  have hsz : (DataW.weightsEach Tryd.prog (Tryd.f9.params.toList ++ Rows.treeSoundSpec.plain.varTypes Tryd.prog) (ds ++ gs)).all (· ≤ reachBytes) = true := hsz0
  have hW' := hW
  obtain ⟨p, q, hA0, hV, rfl, hfz, hnd⟩ := hW
  have hA : DataW.TrodAll enc Tryd.prog W 0 (fun _ => true) true Tryd.f9.params.toList args.toList ds p := hA0
  rw [Tryd.params9] at hA hval hsz
  obtain ⟨v0, vs0, d0, ds0, p0, q0, hargs, rfl, rfl, h0, r0⟩ := trodAll_cons hA
  obtain ⟨v1, vs1, d1, ds1, p1, q1, rfl, rfl, rfl, h1, r1⟩ := trodAll_cons r0
  obtain ⟨v2, vs2, d2, ds2, p2, q2, rfl, rfl, rfl, h2, r2⟩ := trodAll_cons r1
  obtain ⟨rfl, rfl, rfl⟩ := trodAll_nil r2
  obtain rfl : args = #[v0, v1, v2] := by cases args; simp_all
  obtain ⟨rfl, rfl⟩ := trodVars_none hV
  have k0 := h0
  have lt0 : ∀ x ∈ p0, x.block < W.heap.size := by obtain ⟨m, hm⟩ := k0; exact DataW.trod_lt m _ _ _ hm
  obtain ⟨l0, hB0⟩ : ∃ l, Ksl W v0 l ∧ l.length ≤ 4398046510976 := by
    obtain ⟨a0, len, cap, rfl⟩ := okWide_slice Tryd.underlying31 (hval 0 31 v0 rfl rfl)
    obtain ⟨m, hm⟩ := h0
    exact ksl_of_trod hm (fun n hn => by simpa using List.all_eq_true.1 hsz n (DataW.weights_mem_each (j := 0) rfl rfl n hn))
  have k1 := h1
  have lt1 : ∀ x ∈ p1, x.block < W.heap.size := by obtain ⟨m, hm⟩ := k1; exact DataW.trod_lt m _ _ _ hm
  obtain ⟨cs1, rfl, _⟩ := okWide_struct Tryd.underlying52 (hval 1 52 v1 rfl rfl)
  obtain ⟨pr1, py1, pn1, pi1, pv1, pp1, kr1, ky1, bn1, bi1, ea1, hP1, hPl1⟩ : ∃ (r y : List Int) (n i : Int) (v : Value) (p : List (List Int)), Ky r ∧ Ky y ∧ (-9223372036854775808 ≤ n ∧ n ≤ 9223372036854775807) ∧ (-9223372036854775808 ≤ i ∧ i ≤ 9223372036854775807) ∧ cs1.toList = (plrow r y n i v).toList ∧ Ksl W v p ∧ p.length ≤ 4398046510976 := by
    obtain ⟨m, hm⟩ := h1
    exact place_of_trod hm (fun n hn => by simpa using List.all_eq_true.1 hsz n (DataW.weights_mem_each (j := 1) rfl rfl n hn))
  obtain rfl : cs1 = plrow pr1 py1 pn1 pi1 pv1 := Array.ext' ea1
  have k2 := h2
  have lt2 : ∀ x ∈ p2, x.block < W.heap.size := by obtain ⟨m, hm⟩ := k2; exact DataW.trod_lt m _ _ _ hm
  obtain ⟨cs2, rfl, _⟩ := okWide_struct Tryd.underlying56 (hval 2 56 v2 rfl rfl)
  obtain ⟨pr2, py2, pn2, pi2, pv2, pp2, kr2, ky2, bn2, bi2, ea2, hP2, hPl2⟩ : ∃ (r y : List Int) (n i : Int) (v : Value) (p : List (List Int)), Ky r ∧ Ky y ∧ (-9223372036854775808 ≤ n ∧ n ≤ 9223372036854775807) ∧ (-9223372036854775808 ≤ i ∧ i ≤ 9223372036854775807) ∧ cs2.toList = (plrow r y n i v).toList ∧ Ksl W v p ∧ p.length ≤ 4398046510976 := by
    obtain ⟨m, hm⟩ := h2
    exact claim_of_trod hm (fun n hn => by simpa using List.all_eq_true.1 hsz n (DataW.weights_mem_each (j := 2) rfl rfl n hn))
  obtain rfl : cs2 = plrow pr2 py2 pn2 pi2 pv2 := Array.ext' ea2
  clear hA0 hval0
  refine (sound_any l0 pp1 pp2 pr1 py1 pr2 py2 pn1 pi1 pn2 pi2 W v0 pv1 pv2 kr1 ky1 kr2 ky2 (sta_of_laid hL).1 (sta_of_laid hL).2 hB0.1 hP1 hP2 (by have := hB0.2; omega) (by omega) (by omega)).mono fun e W' ⟨he, bel⟩ => ?_
  subst he
  exact ⟨_, rfl, _, _, _, [], _, [], hW', trodAll_mk1 (shut_bool Tryd.underlying4 _), (trodAll_cons_mk (Below.trod laidOut (by kernel_rfl) (of_decide_eq_true (by kernel_rfl)) k0 bel lt0) (trodAll_cons_mk (Below.trod laidOut (by kernel_rfl) (of_decide_eq_true (by kernel_rfl)) k1 bel lt1) (trodAll_cons_mk (Below.trod laidOut (by kernel_rfl) (of_decide_eq_true (by kernel_rfl)) k2 bel lt2) trodAll_mk0))), rfl, bel.frame _, fun h => by cases h⟩

theorem treeSound_row : Rows.TreeSoundSaid :=
  OpenClaim.holds_of_wide 9 Tryd.f9 rfl rfl rfl rfl rfl rfl rfl ⟨rfl, rfl, rfl, rfl, rfl⟩ rfl rfl rfl rfl rfl (by kernel_rfl) Tryd.func9 (by kernel_rfl)
    (of_decide_eq_true (by kernel_rfl)) (by unfold Func.isWrapper; first | (rw [if_pos (by decide +kernel)]; kernel_rfl) | (rw [if_neg (by decide +kernel)]; exact ⟨rfl, rfl⟩))
    (fun os started H enc _ => treeSound_lifted os started H enc)

theorem treeSound_holds : Rows.TreeSoundCardSaid :=
  Claim7.holds_tied_plain_at .later [] [.data, .data] true (true, "57a3138f4edb44346099c45f3437c0e96169c6c1cab86d734019227ef64ee0cd") false
    treeSound_row (fun _ h => by cases h) (by kernel_rfl) (fun _ h => by cases h) treeSound_row_tie rfl ⟨rfl, rfl⟩ (by kernel_rfl) rfl
    (fun f fn hf hfn => by
      obtain rfl : f = 9 := Option.some.inj ((show Tryd.prog.funcNamed "pawl/pawllaw21.TreeSound" = some 9 by kernel_rfl).symm.trans hf) |>.symm
      obtain rfl : fn = Tryd.f9 := (Option.some.inj (Tryd.func9.symm.trans hfn)).symm
      exact ⟨by kernel_rfl, fun j t ht => by
        rw [Tryd.params9] at ht
        have hm : t ∈ [31, 52, 56] := by have := Array.mem_of_getElem? ht; simp at this; simp [this]
        have hall : ([31, 52, 56].all fun u => !Tryd.prog.wantsStandIn u) = true := by kernel_rfl
        exact (show Tryd.prog.wantsStandIn t = false by simpa using List.all_eq_true.1 hall t hm)⟩)
    (by kernel_rfl)
#print axioms treeSound_holds
end Go.Proofs.YtgfeacnhdlgpoaaDoor

