import Derived.Test.YtgbkbcgjagcgbaaGreatDoorRows
import Derived.Test.YtgbkbcgjagcgbaaGreatDoorTie
import Derived.Test.YtgbkbcgjagcgbaaGreatDoorCards
import Derived.Test.YtgbkbcgjagcgbaaGreatDoorAgu
import Derived.Test.YtgbkbcgjagcgbaaGreatDoorOpen
import Derived.Test.YtgbkbcgjagcgbaaGreatDoorAgs
import Derived.Test.YtgbkbcgjagcgbaaGreatDoorAa1
import Derived.WalkKit
import Derived.ProofKit
import Derived.OpenShut
import Derived.ShutString
import Derived.ChangeOld
import Derived.ChangeSlices
import Derived.SizedLaws
import Derived.Below
import Derived.LaidMore
import Derived.Stop.Joined
import Derived.SevenTiedAt
namespace Go.Proofs.YtgbkbcgjagcgbaaGreatDoor
set_option maxRecDepth 100000
open Go.ChangeShapes Go.WideShapes Go.ChangeAt Go.RowKit

theorem own : ownKnob Tryz.prog.godebug = none := by kernel_rfl
theorem laidOut : laidOutB Tryz.prog = true := by kernel_rfl
theorem bytesU8 : Tryz.prog.bytesOf 5 = 1 := by kernel_rfl
theorem cellsU8 : Tryz.prog.cellsOf 5 = 1 := by kernel_rfl
theorem cK32 : Tryz.prog.cellsOf 23 = 32 := by kernel_rfl
theorem door_met (os : Os) (args : Array Value) : laidMetH Tryz.prog [("pawl/field.fourfold", Rows.laid_pawl_field_fourfold), ("pawl/hash.start", Rows.laid_pawl_hash_start), ("pawl/hash.constants", Rows.laid_pawl_hash_constants)] ((World.doorLaid Tryz.prog 400 os).forCall (fun _ _ => 0) ⟨#[], args, []⟩).memory :=
  laidMetH_of_parts3 (fuel := 8) (laidMet_of_run' 8 (by kernel_rfl) (by kernel_rfl)) (by kernel_rfl) (by kernel_rfl)

set_option maxRecDepth 100000 in
theorem agreeAnswers_lifted (os : Os) (started : os.Started) (H : Type) (enc : TypeId × Value → H) :
    ReturnsInHanded {} Tryz.checked os 4 .any (fun w args => (Rows.agreeAnswersSpec.pre enc Tryz.prog Tryz.f4 [] false w args ∧ laidMetH Tryz.prog [("pawl/field.fourfold", Rows.laid_pawl_field_fourfold), ("pawl/hash.start", Rows.laid_pawl_hash_start), ("pawl/hash.constants", Rows.laid_pawl_hash_constants)] w) ∧ sizedMet enc Tryz.prog Tryz.f4 (OpenSpec.ofChange Rows.agreeAnswersSpec) false w args)
      (Rows.agreeAnswersSpec.post enc Tryz.prog Tryz.f4 false true false false) := by
  refine returnsInHanded_of_change_and (C := Tryz.checked) (X := fun w _ => laidMetH Tryz.prog [("pawl/field.fourfold", Rows.laid_pawl_field_fourfold), ("pawl/hash.start", Rows.laid_pawl_hash_start), ("pawl/hash.constants", Rows.laid_pawl_hash_constants)] w) (fun _ _ _ hh h => h.of_heap hh) own started (by kernel_rfl) Tryz.func4
    (ChangeSpec.witness_shaped (enc := enc) (C := Tryz.checked) (os := os) (X := fun w _ => laidMetH Tryz.prog [("pawl/field.fourfold", Rows.laid_pawl_field_fourfold), ("pawl/hash.start", Rows.laid_pawl_hash_start), ("pawl/hash.constants", Rows.laid_pawl_hash_constants)] w) false (World.doorLaid Tryz.prog 400 os) #[.agg (psrow (zr 32) (zr 32) (zr 32) (zr 32) (zr 32) (zr 32) false), .agg #[.int .u8 0, .int .u8 0, .int .u8 0, .int .u8 0, .int .u8 0, .int .u8 0, .int .u8 0, .int .u8 0, .int .u8 0, .int .u8 0, .int .u8 0, .int .u8 0, .int .u8 0, .int .u8 0, .int .u8 0, .int .u8 0, .int .u8 0, .int .u8 0, .int .u8 0, .int .u8 0, .int .u8 0, .int .u8 0, .int .u8 0, .int .u8 0, .int .u8 0, .int .u8 0, .int .u8 0, .int .u8 0, .int .u8 0, .int .u8 0, .int .u8 0, .int .u8 0], .agg #[.int .u8 0, .int .u8 0, .int .u8 0, .int .u8 0, .int .u8 0, .int .u8 0, .int .u8 0, .int .u8 0, .int .u8 0, .int .u8 0, .int .u8 0, .int .u8 0, .int .u8 0, .int .u8 0, .int .u8 0, .int .u8 0, .int .u8 0, .int .u8 0, .int .u8 0, .int .u8 0, .int .u8 0, .int .u8 0, .int .u8 0, .int .u8 0, .int .u8 0, .int .u8 0, .int .u8 0, .int .u8 0, .int .u8 0, .int .u8 0, .int .u8 0, .int .u8 0]] 8 rfl (World.shaped_of_RefB (by kernel_rfl) (by kernel_rfl)) (by kernel_rfl) (by kernel_rfl) (by kernel_rfl) (door_met os _)) ?_
  intro W base args ds gs before hval0 hW _ hsz0 hL _
  have hval : ∀ (j : Nat) t v, Tryz.f4.params[j]? = some t → args[j]? = some v → Value.okWide Tryz.prog W .any base t v := hval0
  have hsz : (DataW.weightsEach Tryz.prog (Tryz.f4.params.toList ++ Rows.agreeAnswersSpec.plain.varTypes Tryz.prog) (ds ++ gs)).all (· ≤ reachBytes) = true := hsz0
  have hW' := hW
  obtain ⟨p, q, hA0, hV, rfl, hfz, hnd⟩ := hW
  have hA : DataW.TrodAll enc Tryz.prog W 0 (fun _ => true) true Tryz.f4.params.toList args.toList ds p := hA0
  rw [Tryz.params4] at hA hval hsz
  obtain ⟨v0, vs0, d0, ds0, p0, q0, hargs, rfl, rfl, h0, r0⟩ := trodAll_cons hA
  obtain ⟨v1, vs1, d1, ds1, p1, q1, rfl, rfl, rfl, h1, r1⟩ := trodAll_cons r0
  obtain ⟨v2, vs2, d2, ds2, p2, q2, rfl, rfl, rfl, h2, r2⟩ := trodAll_cons r1
  obtain ⟨rfl, rfl, rfl⟩ := trodAll_nil r2
  obtain rfl : args = #[v0, v1, v2] := by cases args; simp_all
  obtain ⟨rfl, rfl⟩ := trodVars_none hV
  have k0 := h0
  have lt0 : ∀ x ∈ p0, x.block < W.heap.size := by obtain ⟨m, hm⟩ := k0; exact DataW.trod_lt m _ _ _ hm
  obtain ⟨cs0, rfl, _⟩ := okWide_struct Tryz.underlying39 (hval 0 39 v0 rfl rfl)
  obtain ⟨ia0, ib0, sa0, sb0, oa0, ob0, hb0, k_ia0, k_ib0, k_sa0, k_sb0, k_oa0, k_ob0, ea0⟩ : ∃ (ia : List Int) (ib : List Int) (sa : List Int) (sb : List Int) (oa : List Int) (ob : List Int) (h : Bool), K8 ia ∧ K8 ib ∧ K8 sa ∧ K8 sb ∧ K8 oa ∧ K8 ob ∧ cs0.toList = (psrow ia ib sa sb oa ob h).toList := by
    obtain ⟨m, hm⟩ := h0
    exact ps_of_trod hm
  obtain rfl : cs0 = psrow ia0 ib0 sa0 sb0 oa0 ob0 hb0 := Array.ext' ea0
  have k1 := h1
  have lt1 : ∀ x ∈ p1, x.block < W.heap.size := by obtain ⟨m, hm⟩ := k1; exact DataW.trod_lt m _ _ _ hm
  obtain ⟨l1, hl1, rfl, wl1⟩ := open_array Tryz.underlying23 Tryz.underlying5 cellsU8 cK32 (hval 1 23 v1 rfl rfl) h1
  have hz1 : ∀ z ∈ l1, 0 ≤ z ∧ z < 256 := fun z h => u8_of_wf (wl1 z h)
  have k2 := h2
  have lt2 : ∀ x ∈ p2, x.block < W.heap.size := by obtain ⟨m, hm⟩ := k2; exact DataW.trod_lt m _ _ _ hm
  obtain ⟨l2, hl2, rfl, wl2⟩ := open_array Tryz.underlying23 Tryz.underlying5 cellsU8 cK32 (hval 2 23 v2 rfl rfl) h2
  have hz2 : ∀ z ∈ l2, 0 ≤ z ∧ z < 256 := fun z h => u8_of_wf (wl2 z h)
  clear hA0 hval0
  refine (answers_any ia0 ib0 sa0 sb0 oa0 ob0 l1 l2 hb0 k_ia0 k_ib0 k_sa0 k_sb0 k_oa0 k_ob0 ⟨hl1, hz1⟩ ⟨hl2, hz2⟩ W (three_of_laid hL).1 (three_of_laid hL).2.1 (three_of_laid hL).2.2).mono fun e W' ⟨he, bel⟩ => ?_
  subst he
  exact ⟨_, rfl, _, _, _, [], _, [], hW', trodAll_mk1 (shut_bool Tryz.underlying4 _), (trodAll_cons_mk (Below.trod laidOut (by kernel_rfl) (of_decide_eq_true (by kernel_rfl)) k0 bel lt0) (trodAll_cons_mk (Below.trod laidOut (by kernel_rfl) (of_decide_eq_true (by kernel_rfl)) k1 bel lt1) (trodAll_cons_mk (Below.trod laidOut (by kernel_rfl) (of_decide_eq_true (by kernel_rfl)) k2 bel lt2) trodAll_mk0))), rfl, bel.frame _, fun h => by cases h⟩

theorem agreeAnswers_row : Rows.AgreeAnswersSaid :=
  OpenClaim.holds_of_wide 4 Tryz.f4 rfl rfl rfl rfl rfl rfl rfl ⟨rfl, rfl, rfl, rfl, rfl⟩ rfl rfl rfl rfl rfl (by kernel_rfl) Tryz.func4 (by kernel_rfl)
    (of_decide_eq_true (by kernel_rfl)) (by unfold Func.isWrapper; first | (rw [if_pos (by decide +kernel)]; kernel_rfl) | (rw [if_neg (by decide +kernel)]; exact ⟨rfl, rfl⟩))
    (fun os started H enc _ => agreeAnswers_lifted os started H enc)

theorem agreeAnswers_holds : Rows.AgreeAnswersCardSaid :=
  Claim7.holds_tied_plain_at .later [] [.data, .data, .data] true (true, "b9113d9a07aee3dcc8571ffc9a0e0f84b14f2724ad98b79f36e0a145197fbf40") false
    agreeAnswers_row (fun _ h => by cases h) (by kernel_rfl) (fun _ h => by cases h) agreeAnswers_row_tie rfl ⟨rfl, rfl⟩ (by kernel_rfl) rfl
    (fun f fn hf hfn => by
      obtain rfl : f = 4 := Option.some.inj ((show Tryz.prog.funcNamed "pawl/pawllaw14.AgreeAnswers" = some 4 by kernel_rfl).symm.trans hf) |>.symm
      obtain rfl : fn = Tryz.f4 := (Option.some.inj (Tryz.func4.symm.trans hfn)).symm
      exact ⟨by kernel_rfl, fun j t ht => by
        rw [Tryz.params4] at ht
        have hm : t ∈ [39, 23] := by have := Array.mem_of_getElem? ht; simp at this; simp [this]
        have hall : ([39, 23].all fun u => !Tryz.prog.wantsStandIn u) = true := by kernel_rfl
        exact (show Tryz.prog.wantsStandIn t = false by simpa using List.all_eq_true.1 hall t hm)⟩)
    (by kernel_rfl)
#print axioms agreeAnswers_holds
end Go.Proofs.YtgbkbcgjagcgbaaGreatDoor

