import Derived.Test.YtjoohgkgkabbpaaGreatDoorXQa8
import Derived.OwnWalk
import Derived.Deep.Cut
import Derived.Deep.RegionHeld3
namespace Go.Proofs.YtjoohgkgkabbpaaGreatDoor
set_option maxRecDepth 100000
open Go Go.RowKit Go.Sort
attribute [local go_sem] setCell_drewN alloc_drewN
def bsl : List Slt := [.mk 1 5 32 32 [], .mk 2 5 32 32 [], .mk 3 4 0 0 [], .mk 4 5 32 32 []]
def bcs : Array Value := #[.int .i64 1, .int .i64 5, .int .u64 32, .int .u64 32, .slice none 0 0, .int .i64 2, .int .i64 5, .int .u64 32, .int .u64 32, .slice none 0 0, .int .i64 3, .int .i64 4, .int .u64 0, .int .u64 0, .slice none 0 0, .int .i64 4, .int .i64 5, .int .u64 32, .int .u64 32, .slice none 0 0]
theorem bsl_vld : vld bsl = 0 := by
 have h1 : ¬ lft bsl 1 256 < 0 := by simp [lft, bsl, lfL, fitN, fitB]
 have e10 : (en 10).length = 1 := by rw [en_lo (by decide)]; rfl
 have e32 : (en 32).length = 1 := by rw [en_lo (by decide)]; rfl
 have e18 : (en 18).length = 1 := by rw [en_lo (by decide)]; rfl
 have e24 : (en 24).length = 1 := by rw [en_lo (by decide)]; rfl
 have e34 : (en 34).length = 1 := by rw [en_lo (by decide)]; rfl
 have h2 : (spL bsl 0 0).2 = 104 := by simp [bsl, spL, slsz, hdl, tyOf, frm, cpd, e10, e32, e18, e24, e34]
 rw [vld, if_neg h1, if_neg (by rw [h2]; decide)]
theorem bsl_slo {W : World} {g : Nat} (h : Bx W g bcs) : Slo W (.slice (some ⟨g, 0, none⟩) 4 4) bsl := by
 have hlt := h.lt
 refine Slo.mk (some ⟨g, 0, none⟩) 4 bsl [.slice none 0 0, .slice none 0 0, .slice none 0 0, .slice none 0 0] (by simp [bsl]) (by simp [bsl]) (fun e => by cases e) (fun i hi => ⟨g, 0, rfl, hlt, ?_, ?_⟩) (fun i hi => ?_)
 ·obtain ⟨T, h⟩ := h
  intro j v hv
  rw [cell_of_row _ _ _ _ _ _ h]
  have hj : j < 5 := by have := (List.getElem?_eq_some_iff.1 hv).1; simpa [srow] using this
  have hi3 : i < 4 := hi
  rcases (by omega : i = 0 ∨ i = 1 ∨ i = 2 ∨ i = 3) with rfl | rfl | rfl | rfl <;> rcases (by omega : j = 0 ∨ j = 1 ∨ j = 2 ∨ j = 3 ∨ j = 4) with rfl | rfl | rfl | rfl | rfl <;> exact hv
 ·have hi3 : i < 4 := hi
  rcases (by omega : i = 0 ∨ i = 1 ∨ i = 2 ∨ i = 3) with rfl | rfl | rfl | rfl <;> (unfold Sok; decide)
 ·have hi3 : i < 4 := hi
  rcases (by omega : i = 0 ∨ i = 1 ∨ i = 2 ∨ i = 3) with rfl | rfl | rfl | rfl <;> exact Slo.mk none 0 [] [] (by simp) (by simp) (fun _ => rfl) (fun i hi => by simp at hi) (fun i hi => by simp at hi)
theorem bsl_flat : ∀ i, i < bsl.length → Fla (gs bsl i) := fun i hi => by
 have hi3 : i < 4 := hi
 rcases (by omega : i = 0 ∨ i = 1 ∨ i = 2 ∨ i = 3) with rfl | rfl | rfl | rfl <;> (unfold Fla; decide)
theorem infoSlB : (Tryz.prog.info? 114).map (·.size) = some 5 := by kernel_rfl
set_option maxRecDepth 100000 in
set_option maxHeartbeats 8000000 in
theorem a_keySlot (no : Int) (w : World) : Calls Tryz.prog 70 #[.int .i64 no] w fun e w' => e = .returned (.agg #[.int .i64 no, .int .i64 5, .int .u64 32, .int .u64 32, .slice none 0 0]) ∧ Below w.heap.size w w' := by
 have hb : Below w.heap.size w (w.alloc (.cells #[.int .i64 0, .int .i64 0, .int .u64 0, .int .u64 0, .slice none 0 0] 114)) := (Below.refl _ _).alloc (Nat.le_refl _) _
 have r1 := hp1_0 w (.cells #[.int .i64 0, .int .i64 0, .int .u64 0, .int .u64 0, .slice none 0 0] 114)
 have hb2 := below_setRow (g := w.heap.size) hb (Nat.le_refl _) #[.int .i64 no, .int .i64 5, .int .u64 32, .int .u64 32, .slice none 0 0]
 have r2 := setRow_heap _ w.heap.size _ (#[.int .i64 no, .int .i64 5, .int .u64 32, .int .u64 32, .slice none 0 0]) _ _ r1
 have hone : (#[Value.int .i64 no, .int .i64 5, .int .u64 32, .int .u64 32, .slice none 0 0] : Array Value).all (·.oneCell') = true := by simp [Value.oneCell']
 have A1 := hide hb2
 have A2 := hide r2
 clear hb hb2 r2
 go_enter Tryz.func70, Tryz.ntmps70
 go_wp2_with (first | (refine wpList_store_row rfl 114 _ _ rfl w.heap.size #[.int .i64 no, .int .i64 5, .int .u64 32, .int .u64 32, .slice none 0 0] rfl rfl 114 _ r1 infoSlB rfl hone ?_) | fail)
 exact bodyPost_ret (v := .agg #[.int .i64 no, .int .i64 5, .int .u64 32, .int .u64 32, .slice none 0 0]) (results_cell_row Tryz.results70 _ _ w.heap.size _ _ _ _ rfl A2.out Tryz.underlying114 rfl infoSlB) rfl ⟨rfl, A1.out⟩
set_option maxRecDepth 100000 in
set_option maxHeartbeats 8000000 in
theorem a_codec (w : World) : Calls Tryz.prog 35 #[] w fun e w' => ∃ v, e = .returned v ∧ (∃ q, v = .pointer (some ⟨q, 0, none⟩) ∧ w.heap.size ≤ q ∧ Cdc w' q bsl) ∧ Below w.heap.size w w' := by
 go_enter Tryz.func35, Tryz.ntmps35
 go_wp2_with (fail)
 refine (a_keySlot 1 w).mono ?_
 rintro e_ w1 ⟨rfl, hb⟩
 go_wp2_with (fail)
 refine (a_keySlot 2 w1).mono ?_
 rintro e_ w2 ⟨rfl, hb2⟩
 replace hb := Below.after hb hb2
 clear hb2
 go_wp2_with (fail)
 refine (a_keySlot 4 w2).mono ?_
 rintro e_ w3 ⟨rfl, hb2⟩
 replace hb := Below.after hb hb2
 clear hb2
 have cK := a_Compile (bsl_slo (W := w3.alloc (.cells bcs 114)) (g := w3.heap.size) ⟨_, hp1_0 w3 _⟩) (w3.alloc (.cells bcs 114)) (Below.refl _ _)
 have hba : Below w3.heap.size w3 (w3.alloc (.cells bcs 114)) := (Below.refl _ _).alloc (Nat.le_refl _) _
 have A1 := hide (Below.after hb hba)
 have hsz : w.heap.size ≤ (w3.alloc (.cells bcs 114)).heap.size := A1.out.size
 clear hba hb
 replace cK := hide cK
 unfold bcs at *
 go_wp2_with (fail)
 refine cK.out.mono ?_
 rintro e_ w4 ⟨hb, hq⟩
 rcases hq with ⟨_, q, rfl, hq1, hq2⟩ | ⟨hq, _⟩
 ·have A2 := hide hq2
  have A3 := hide (Below.after A1.out hb)
  clear cK hq2 hb
  go_wp2_with (fail)
  go_ret
  exact ⟨_, rfl, ⟨q, rfl, Nat.le_trans hsz hq1, A2.out⟩, A3.out⟩
 ·exact absurd bsl_vld hq
end Go.Proofs.YtjoohgkgkabbpaaGreatDoor

