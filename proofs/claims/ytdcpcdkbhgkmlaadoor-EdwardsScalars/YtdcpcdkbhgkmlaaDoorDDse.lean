import Derived.Test.YtdcpcdkbhgkmlaaDoorProg
import Derived.WalkKit
import Derived.WalkSpells
import Derived.WalkLawsBesides
import Derived.Lib.QuietBelow
import Derived.BigQuiet
import Derived.Test.YtdcpcdkbhgkmlaaDoorDOpen
import Derived.Test.YtdcpcdkbhgkmlaaDoorDDsc
import Derived.Test.YtdcpcdkbhgkmlaaDoorDGb
namespace Go.Proofs.YtdcpcdkbhgkmlaaDoor
set_option maxRecDepth 100000
open Go.RowKit Go.Sort
attribute [local go_sem] setCell_drewN alloc_drewN
def Ord (w : World) : Prop := ∃ t fr, w.heap[2]? = some (.cells (wd L19) t fr)
theorem Ord.sz {w : World} (h : Ord w) : 2 < w.heap.size := by
 obtain ⟨t, fr, h⟩ := h
 exact (Array.getElem?_eq_some_iff.1 h).1
theorem Ord.belowN {w w' : World} {m : Nat} (h : Ord w) (hm : 2 < m) (hb : Below m w w') : Ord w' := by
 obtain ⟨t, fr, h⟩ := h
 exact ⟨t, fr, (hb.block _ hm).trans h⟩
theorem Ord.below {w w' : World} (h : Ord w) (hb : Below w.heap.size w w') : Ord w' := h.belowN h.sz hb
theorem Ord.alloc {w : World} (h : Ord w) (o : Obj) : Ord (w.alloc o) := h.below ((Below.refl _ _).alloc (Nat.le_refl _) _)
theorem Ord.setRow {w : World} {g : Nat} (h : Ord w) (hg : 2 < g) (cs : Array Value) : Ord (w.setRow g cs) := h.belowN (Nat.lt_succ_self _) (below_setRow (Below.refl _ _) hg cs)
theorem Ord.cell {w : World} (h : Ord w) (i : Nat) : w.cell? ⟨2, i, none⟩ = (wd L19)[i]? := by
 obtain ⟨t, fr, h⟩ := h
 exact cell_of_row w _ i _ _ _ h
def GivesO (f : FuncId) (args : Array Value) (v : Value) : Prop := ∀ W, Ord W → Calls Tryd.prog f args W fun e w' => e = .returned v ∧ Below W.heap.size W w'
theorem GivesO.at {f : FuncId} {args : Array Value} {v : Value} (h : GivesO f args v) {W : World} (hW : Ord W) : Calls Tryd.prog f args W fun e w' => e = .returned v ∧ Below W.heap.size W w' := h W hW
theorem GivesO.re {f : FuncId} {args : Array Value} {v : Value} (h : GivesO f args v) {w : World} {d : Nat} {os : Array Obj} (hw : Ord w) : Calls Tryd.prog f args (grow (redrawn w d) os) fun e w'' => e = .returned v ∧ ∃ p : Regrown, w'' = grow (redrawn w p.d) p.os := Calls.regrown_of (h _ (hw.below (below_regrown w d os)))
theorem wd_infoW (A : Int) : (Tryd.prog.info? 51).map (·.size) = some (wd A).size := by rw [wd_size]; kernel_rfl
theorem wd_infoS (A : Int) : (Tryd.prog.info? 53).map (·.size) = some (wd A).size := by rw [wd_size]; kernel_rfl
theorem wd_part (A : Int) : (wd A).extract 0 (0 + (wd A).size) = wd A := by simp
theorem wd_built (A : Int) : Tryd.prog.built 53 [(0, .agg (wd A))] = some (wd A) := by kernel_rfl
set_option maxRecDepth 100000 in
set_option maxHeartbeats 8000000 in
theorem within_0 {A : Int} (hA : 0 ≤ A ∧ A < 115792089237316195423570985008687907853269984665640564039457584007913129639936) : GivesO 55 #[.agg (wd A), .int .u64 0] (.agg (wd ((A + 0 * L19) % 115792089237316195423570985008687907853269984665640564039457584007913129639936))) := by
 intro w hF
 have cP := a_wplus hA (B := 0 * L19) (by unfold L19; decide)
 generalize (A + 0 * L19) / 115792089237316195423570985008687907853269984665640564039457584007913129639936 = ov at *
 generalize ((A + 0 * L19) % 115792089237316195423570985008687907853269984665640564039457584007913129639936) = R at *
 have ra := hp3_0 w (.cells (wd A) 51) (.cells #[.int .u64 0, .int .u64 0, .int .u64 0, .int .u64 0] 53) (.cells #[.int .u64 0, .int .u64 0, .int .u64 0, .int .u64 0] 51)
 have rb := hp3_1 w (.cells (wd A) 51) (.cells #[.int .u64 0, .int .u64 0, .int .u64 0, .int .u64 0] 53) (.cells #[.int .u64 0, .int .u64 0, .int .u64 0, .int .u64 0] 51)
 have rc := hp3_2 w (.cells (wd A) 51) (.cells #[.int .u64 0, .int .u64 0, .int .u64 0, .int .u64 0] 53) (.cells #[.int .u64 0, .int .u64 0, .int .u64 0, .int .u64 0] 51)
 have hw : Below w.heap.size w (((w.alloc (.cells (wd A) 51)).alloc (.cells #[.int .u64 0, .int .u64 0, .int .u64 0, .int .u64 0] 53)).alloc (.cells #[.int .u64 0, .int .u64 0, .int .u64 0, .int .u64 0] 51)) := (((Below.refl _ _).alloc (Nat.le_refl _) _).alloc (by simp) _).alloc (by simp; omega) _
 have f4 : Ord (((w.alloc (.cells (wd A) 51)).alloc (.cells #[.int .u64 0, .int .u64 0, .int .u64 0, .int .u64 0] 53)).alloc (.cells #[.int .u64 0, .int .u64 0, .int .u64 0, .int .u64 0] 51)) := ((hF.alloc _).alloc _).alloc _
 have hz := hF.sz
 go_enter Tryd.func55, Tryd.ntmps55
 go_wp2_with (fail)
 generalize (((w.alloc (.cells (wd A) 51)).alloc (.cells #[.int .u64 0, .int .u64 0, .int .u64 0, .int .u64 0] 53)).alloc (.cells #[.int .u64 0, .int .u64 0, .int .u64 0, .int .u64 0] 51)) = w0 at *
 go_loopw [7] (fun v wr => ∃ k : Nat, k ≤ 4 ∧ v = .int .i64 k ∧ wr.heap[w.heap.size]? = some (.cells (wd A) 51 (0, 0)) ∧ wr.heap[w.heap.size + 1]? = some (.cells #[.int .u64 0, .int .u64 0, .int .u64 0, .int .u64 0] 53 (0, 0)) ∧ ((k = 0 ∧ wr.heap[w.heap.size + 1 + 1]? = some (.cells #[.int .u64 0, .int .u64 0, .int .u64 0, .int .u64 0] 51 (0, 0))) ∨ (k = 1 ∧ wr.heap[w.heap.size + 1 + 1]? = some (.cells #[.int .u64 0, .int .u64 0, .int .u64 0, .int .u64 0] 51 (0, 0))) ∨ (k = 2 ∧ wr.heap[w.heap.size + 1 + 1]? = some (.cells #[.int .u64 0, .int .u64 0, .int .u64 0, .int .u64 0] 51 (0, 0))) ∨ (k = 3 ∧ wr.heap[w.heap.size + 1 + 1]? = some (.cells #[.int .u64 0, .int .u64 0, .int .u64 0, .int .u64 0] 51 (0, 0))) ∨ (k = 4 ∧ wr.heap[w.heap.size + 1 + 1]? = some (.cells #[.int .u64 0, .int .u64 0, .int .u64 0, .int .u64 0] 51 (0, 0)))) ∧ Below w.heap.size w wr ∧ Ord wr) (fun v _ => 4 - (intOf v).toNat)
 case atStart => exact ⟨0, by omega, rfl, ra, rb, .inl ⟨rfl, rc⟩, hw, f4⟩
 case round =>
  clear ra rb rc hw f4
  obtain ⟨k, hk, rfl, ra, rb, hx, hw, f4⟩ := hrel
  rcases hx with ⟨rfl, rc⟩ | ⟨rfl, rc⟩ | ⟨rfl, rc⟩ | ⟨rfl, rc⟩ | ⟨rfl, rc⟩
  ·have hd : decide ((0 : Int) < 4) = true := by decide
   have co : wr.cell? ⟨2, 0, none⟩ = some (.int .u64 6346243789798364141) := f4.cell 0
   have eb : bits .and .u64 6346243789798364141 0 = 0 := by decide +kernel
   have q0 := (setRow_other wr (w.heap.size + 1 + 1) (w.heap.size) #[.int .u64 0, .int .u64 0, .int .u64 0, .int .u64 0] (by omega)).trans ra
   have q1 := (setRow_other wr (w.heap.size + 1 + 1) (w.heap.size + 1) #[.int .u64 0, .int .u64 0, .int .u64 0, .int .u64 0] (by omega)).trans rb
   have q2 := setRow_heap wr (w.heap.size + 1 + 1) _ #[.int .u64 0, .int .u64 0, .int .u64 0, .int .u64 0] _ _ rc
   have q3 := below_setRow hw (show w.heap.size ≤ w.heap.size + 1 + 1 by omega) #[.int .u64 0, .int .u64 0, .int .u64 0, .int .u64 0]
   have q4 := f4.setRow (show 2 < w.heap.size + 1 + 1 by omega) #[.int .u64 0, .int .u64 0, .int .u64 0, .int .u64 0]
   go_wp2_with (first | (refine wpList_load_cell31 rfl 25 _ rfl (2) 0 rfl _ co Tryd.underlying25 ?_) | (refine wpList_store_cell31 rfl 25 _ _ rfl (w.heap.size + 1 + 1) 0 rfl (.int .u64 0) (by first | rfl | (rw [← eb]; rfl)) 51 _ rc (by show 0 < 4; decide) infoW rfl ?_) | fail)
   go_roundw
   case rel => exact ⟨1, by omega, by go_num, q0, q1, .inr (.inl ⟨rfl, q2⟩), q3, q4⟩
   case measure => simp [intOf]
  ·have hd : decide ((1 : Int) < 4) = true := by decide
   have co : wr.cell? ⟨2, 1, none⟩ = some (.int .u64 1503914060200516822) := f4.cell 1
   have eb : bits .and .u64 1503914060200516822 0 = 0 := by decide +kernel
   have q0 := (setRow_other wr (w.heap.size + 1 + 1) (w.heap.size) #[.int .u64 0, .int .u64 0, .int .u64 0, .int .u64 0] (by omega)).trans ra
   have q1 := (setRow_other wr (w.heap.size + 1 + 1) (w.heap.size + 1) #[.int .u64 0, .int .u64 0, .int .u64 0, .int .u64 0] (by omega)).trans rb
   have q2 := setRow_heap wr (w.heap.size + 1 + 1) _ #[.int .u64 0, .int .u64 0, .int .u64 0, .int .u64 0] _ _ rc
   have q3 := below_setRow hw (show w.heap.size ≤ w.heap.size + 1 + 1 by omega) #[.int .u64 0, .int .u64 0, .int .u64 0, .int .u64 0]
   have q4 := f4.setRow (show 2 < w.heap.size + 1 + 1 by omega) #[.int .u64 0, .int .u64 0, .int .u64 0, .int .u64 0]
   go_wp2_with (first | (refine wpList_load_cell31 rfl 25 _ rfl (2) 1 rfl _ co Tryd.underlying25 ?_) | (refine wpList_store_cell31 rfl 25 _ _ rfl (w.heap.size + 1 + 1) 1 rfl (.int .u64 0) (by first | rfl | (rw [← eb]; rfl)) 51 _ rc (by show 1 < 4; decide) infoW rfl ?_) | fail)
   go_roundw
   case rel => exact ⟨2, by omega, by go_num, q0, q1, .inr (.inr (.inl ⟨rfl, q2⟩)), q3, q4⟩
   case measure => simp [intOf]
  ·have hd : decide ((2 : Int) < 4) = true := by decide
   have co : wr.cell? ⟨2, 2, none⟩ = some (.int .u64 0) := f4.cell 2
   have eb : bits .and .u64 0 0 = 0 := by decide +kernel
   have q0 := (setRow_other wr (w.heap.size + 1 + 1) (w.heap.size) #[.int .u64 0, .int .u64 0, .int .u64 0, .int .u64 0] (by omega)).trans ra
   have q1 := (setRow_other wr (w.heap.size + 1 + 1) (w.heap.size + 1) #[.int .u64 0, .int .u64 0, .int .u64 0, .int .u64 0] (by omega)).trans rb
   have q2 := setRow_heap wr (w.heap.size + 1 + 1) _ #[.int .u64 0, .int .u64 0, .int .u64 0, .int .u64 0] _ _ rc
   have q3 := below_setRow hw (show w.heap.size ≤ w.heap.size + 1 + 1 by omega) #[.int .u64 0, .int .u64 0, .int .u64 0, .int .u64 0]
   have q4 := f4.setRow (show 2 < w.heap.size + 1 + 1 by omega) #[.int .u64 0, .int .u64 0, .int .u64 0, .int .u64 0]
   go_wp2_with (first | (refine wpList_load_cell31 rfl 25 _ rfl (2) 2 rfl _ co Tryd.underlying25 ?_) | (refine wpList_store_cell31 rfl 25 _ _ rfl (w.heap.size + 1 + 1) 2 rfl (.int .u64 0) (by first | rfl | (rw [← eb]; rfl)) 51 _ rc (by show 2 < 4; decide) infoW rfl ?_) | fail)
   go_roundw
   case rel => exact ⟨3, by omega, by go_num, q0, q1, .inr (.inr (.inr (.inl ⟨rfl, q2⟩))), q3, q4⟩
   case measure => simp [intOf]
  ·have hd : decide ((3 : Int) < 4) = true := by decide
   have co : wr.cell? ⟨2, 3, none⟩ = some (.int .u64 1152921504606846976) := f4.cell 3
   have eb : bits .and .u64 1152921504606846976 0 = 0 := by decide +kernel
   have q0 := (setRow_other wr (w.heap.size + 1 + 1) (w.heap.size) #[.int .u64 0, .int .u64 0, .int .u64 0, .int .u64 0] (by omega)).trans ra
   have q1 := (setRow_other wr (w.heap.size + 1 + 1) (w.heap.size + 1) #[.int .u64 0, .int .u64 0, .int .u64 0, .int .u64 0] (by omega)).trans rb
   have q2 := setRow_heap wr (w.heap.size + 1 + 1) _ #[.int .u64 0, .int .u64 0, .int .u64 0, .int .u64 0] _ _ rc
   have q3 := below_setRow hw (show w.heap.size ≤ w.heap.size + 1 + 1 by omega) #[.int .u64 0, .int .u64 0, .int .u64 0, .int .u64 0]
   have q4 := f4.setRow (show 2 < w.heap.size + 1 + 1 by omega) #[.int .u64 0, .int .u64 0, .int .u64 0, .int .u64 0]
   go_wp2_with (first | (refine wpList_load_cell31 rfl 25 _ rfl (2) 3 rfl _ co Tryd.underlying25 ?_) | (refine wpList_store_cell31 rfl 25 _ _ rfl (w.heap.size + 1 + 1) 3 rfl (.int .u64 0) (by first | rfl | (rw [← eb]; rfl)) 51 _ rc (by show 3 < 4; decide) infoW rfl ?_) | fail)
   go_roundw
   case rel => exact ⟨4, by omega, by go_num, q0, q1, .inr (.inr (.inr (.inr ⟨rfl, q2⟩))), q3, q4⟩
   case measure => simp [intOf]
  ·have hd : decide ((4 : Int) < 4) = false := by decide
   replace rc : wr.heap[w.heap.size + 1 + 1]? = some (.cells (wd (0 * L19)) 51 (0, 0)) := rc
   go_wp2_with (first | (refine wpList_load_want rfl 51 _ rfl (w.heap.size) rfl 51 (wd A) (0, 0) _ ra Tryd.underlying51 rfl (wd_infoW _) ?_) | (refine wpList_load_want rfl 51 _ rfl (w.heap.size + 1 + 1) rfl 51 (wd (0 * L19)) (0, 0) _ rc Tryd.underlying51 rfl (wd_infoW _) ?_) | fail)
   refine (cP.at _).mono ?_
   rintro e w1 ⟨rfl, hb⟩
   replace ra := keep hb ra
   replace rb := keep hb rb
   replace hw := Below.after hw hb
   clear hb
   go_wp2_with (first | (refine wpList_store_row rfl 51 _ _ rfl (w.heap.size) (wd R) rfl rfl 51 _ ra (wd_infoW _) rfl (wd_one _) ?_; refine wpList_stay ?_) | fail)
   unfold WpStay
   replace rb := (setRow_other w1 (w.heap.size) (w.heap.size + 1) (wd R) (by omega)).trans rb
   replace ra := setRow_heap w1 (w.heap.size) _ (wd R) _ _ ra
   replace hw := below_setRow hw (Nat.le_refl _) (wd R)
   generalize w1.setRow (w.heap.size) (wd R) = w2 at *
   go_wp2_with (first | (refine wpList_load_want rfl 51 _ rfl (w.heap.size) rfl 51 (wd R) (0, 0) _ ra Tryd.underlying51 rfl (wd_infoW _) ?_) | (refine wpList_build_as rfl 53 _ rfl [(0, .agg (wd R))] rfl (wd R) (wd_built R) ?_) | (refine wpList_store_row rfl 53 _ _ rfl (w.heap.size + 1) (wd R) rfl rfl 53 _ rb (wd_infoS _) rfl (wd_one _) ?_) | fail)
   exact bodyPost_ret (v := .agg (wd R)) (results_cell_row Tryd.results55 _ _ (w.heap.size + 1) _ (wd R) _ _ rfl (setRow_heap _ _ _ _ _ _ rb) Tryd.underlying53 rfl (wd_infoS _)) rfl ⟨rfl, below_setRow hw (by omega) _⟩
set_option maxRecDepth 100000 in
set_option maxHeartbeats 8000000 in
theorem within_1 {A : Int} (hA : 0 ≤ A ∧ A < 115792089237316195423570985008687907853269984665640564039457584007913129639936) : GivesO 55 #[.agg (wd A), .int .u64 1] (.agg (wd ((A + 1 * L19) % 115792089237316195423570985008687907853269984665640564039457584007913129639936))) := by
 intro w hF
 have cP := a_wplus hA (B := 1 * L19) (by unfold L19; decide)
 generalize (A + 1 * L19) / 115792089237316195423570985008687907853269984665640564039457584007913129639936 = ov at *
 generalize ((A + 1 * L19) % 115792089237316195423570985008687907853269984665640564039457584007913129639936) = R at *
 have ra := hp3_0 w (.cells (wd A) 51) (.cells #[.int .u64 0, .int .u64 0, .int .u64 0, .int .u64 0] 53) (.cells #[.int .u64 0, .int .u64 0, .int .u64 0, .int .u64 0] 51)
 have rb := hp3_1 w (.cells (wd A) 51) (.cells #[.int .u64 0, .int .u64 0, .int .u64 0, .int .u64 0] 53) (.cells #[.int .u64 0, .int .u64 0, .int .u64 0, .int .u64 0] 51)
 have rc := hp3_2 w (.cells (wd A) 51) (.cells #[.int .u64 0, .int .u64 0, .int .u64 0, .int .u64 0] 53) (.cells #[.int .u64 0, .int .u64 0, .int .u64 0, .int .u64 0] 51)
 have hw : Below w.heap.size w (((w.alloc (.cells (wd A) 51)).alloc (.cells #[.int .u64 0, .int .u64 0, .int .u64 0, .int .u64 0] 53)).alloc (.cells #[.int .u64 0, .int .u64 0, .int .u64 0, .int .u64 0] 51)) := (((Below.refl _ _).alloc (Nat.le_refl _) _).alloc (by simp) _).alloc (by simp; omega) _
 have f4 : Ord (((w.alloc (.cells (wd A) 51)).alloc (.cells #[.int .u64 0, .int .u64 0, .int .u64 0, .int .u64 0] 53)).alloc (.cells #[.int .u64 0, .int .u64 0, .int .u64 0, .int .u64 0] 51)) := ((hF.alloc _).alloc _).alloc _
 have hz := hF.sz
 go_enter Tryd.func55, Tryd.ntmps55
 go_wp2_with (fail)
 generalize (((w.alloc (.cells (wd A) 51)).alloc (.cells #[.int .u64 0, .int .u64 0, .int .u64 0, .int .u64 0] 53)).alloc (.cells #[.int .u64 0, .int .u64 0, .int .u64 0, .int .u64 0] 51)) = w0 at *
 go_loopw [7] (fun v wr => ∃ k : Nat, k ≤ 4 ∧ v = .int .i64 k ∧ wr.heap[w.heap.size]? = some (.cells (wd A) 51 (0, 0)) ∧ wr.heap[w.heap.size + 1]? = some (.cells #[.int .u64 0, .int .u64 0, .int .u64 0, .int .u64 0] 53 (0, 0)) ∧ ((k = 0 ∧ wr.heap[w.heap.size + 1 + 1]? = some (.cells #[.int .u64 0, .int .u64 0, .int .u64 0, .int .u64 0] 51 (0, 0))) ∨ (k = 1 ∧ wr.heap[w.heap.size + 1 + 1]? = some (.cells #[.int .u64 6346243789798364141, .int .u64 0, .int .u64 0, .int .u64 0] 51 (0, 0))) ∨ (k = 2 ∧ wr.heap[w.heap.size + 1 + 1]? = some (.cells #[.int .u64 6346243789798364141, .int .u64 1503914060200516822, .int .u64 0, .int .u64 0] 51 (0, 0))) ∨ (k = 3 ∧ wr.heap[w.heap.size + 1 + 1]? = some (.cells #[.int .u64 6346243789798364141, .int .u64 1503914060200516822, .int .u64 0, .int .u64 0] 51 (0, 0))) ∨ (k = 4 ∧ wr.heap[w.heap.size + 1 + 1]? = some (.cells #[.int .u64 6346243789798364141, .int .u64 1503914060200516822, .int .u64 0, .int .u64 1152921504606846976] 51 (0, 0)))) ∧ Below w.heap.size w wr ∧ Ord wr) (fun v _ => 4 - (intOf v).toNat)
 case atStart => exact ⟨0, by omega, rfl, ra, rb, .inl ⟨rfl, rc⟩, hw, f4⟩
 case round =>
  clear ra rb rc hw f4
  obtain ⟨k, hk, rfl, ra, rb, hx, hw, f4⟩ := hrel
  rcases hx with ⟨rfl, rc⟩ | ⟨rfl, rc⟩ | ⟨rfl, rc⟩ | ⟨rfl, rc⟩ | ⟨rfl, rc⟩
  ·have hd : decide ((0 : Int) < 4) = true := by decide
   have co : wr.cell? ⟨2, 0, none⟩ = some (.int .u64 6346243789798364141) := f4.cell 0
   have eb : bits .and .u64 6346243789798364141 18446744073709551615 = 6346243789798364141 := by decide +kernel
   have q0 := (setRow_other wr (w.heap.size + 1 + 1) (w.heap.size) #[.int .u64 6346243789798364141, .int .u64 0, .int .u64 0, .int .u64 0] (by omega)).trans ra
   have q1 := (setRow_other wr (w.heap.size + 1 + 1) (w.heap.size + 1) #[.int .u64 6346243789798364141, .int .u64 0, .int .u64 0, .int .u64 0] (by omega)).trans rb
   have q2 := setRow_heap wr (w.heap.size + 1 + 1) _ #[.int .u64 6346243789798364141, .int .u64 0, .int .u64 0, .int .u64 0] _ _ rc
   have q3 := below_setRow hw (show w.heap.size ≤ w.heap.size + 1 + 1 by omega) #[.int .u64 6346243789798364141, .int .u64 0, .int .u64 0, .int .u64 0]
   have q4 := f4.setRow (show 2 < w.heap.size + 1 + 1 by omega) #[.int .u64 6346243789798364141, .int .u64 0, .int .u64 0, .int .u64 0]
   go_wp2_with (first | (refine wpList_load_cell31 rfl 25 _ rfl (2) 0 rfl _ co Tryd.underlying25 ?_) | (refine wpList_store_cell31 rfl 25 _ _ rfl (w.heap.size + 1 + 1) 0 rfl (.int .u64 6346243789798364141) (by first | rfl | (rw [← eb]; rfl)) 51 _ rc (by show 0 < 4; decide) infoW rfl ?_) | fail)
   go_roundw
   case rel => exact ⟨1, by omega, by go_num, q0, q1, .inr (.inl ⟨rfl, q2⟩), q3, q4⟩
   case measure => simp [intOf]
  ·have hd : decide ((1 : Int) < 4) = true := by decide
   have co : wr.cell? ⟨2, 1, none⟩ = some (.int .u64 1503914060200516822) := f4.cell 1
   have eb : bits .and .u64 1503914060200516822 18446744073709551615 = 1503914060200516822 := by decide +kernel
   have q0 := (setRow_other wr (w.heap.size + 1 + 1) (w.heap.size) #[.int .u64 6346243789798364141, .int .u64 1503914060200516822, .int .u64 0, .int .u64 0] (by omega)).trans ra
   have q1 := (setRow_other wr (w.heap.size + 1 + 1) (w.heap.size + 1) #[.int .u64 6346243789798364141, .int .u64 1503914060200516822, .int .u64 0, .int .u64 0] (by omega)).trans rb
   have q2 := setRow_heap wr (w.heap.size + 1 + 1) _ #[.int .u64 6346243789798364141, .int .u64 1503914060200516822, .int .u64 0, .int .u64 0] _ _ rc
   have q3 := below_setRow hw (show w.heap.size ≤ w.heap.size + 1 + 1 by omega) #[.int .u64 6346243789798364141, .int .u64 1503914060200516822, .int .u64 0, .int .u64 0]
   have q4 := f4.setRow (show 2 < w.heap.size + 1 + 1 by omega) #[.int .u64 6346243789798364141, .int .u64 1503914060200516822, .int .u64 0, .int .u64 0]
   go_wp2_with (first | (refine wpList_load_cell31 rfl 25 _ rfl (2) 1 rfl _ co Tryd.underlying25 ?_) | (refine wpList_store_cell31 rfl 25 _ _ rfl (w.heap.size + 1 + 1) 1 rfl (.int .u64 1503914060200516822) (by first | rfl | (rw [← eb]; rfl)) 51 _ rc (by show 1 < 4; decide) infoW rfl ?_) | fail)
   go_roundw
   case rel => exact ⟨2, by omega, by go_num, q0, q1, .inr (.inr (.inl ⟨rfl, q2⟩)), q3, q4⟩
   case measure => simp [intOf]
  ·have hd : decide ((2 : Int) < 4) = true := by decide
   have co : wr.cell? ⟨2, 2, none⟩ = some (.int .u64 0) := f4.cell 2
   have eb : bits .and .u64 0 18446744073709551615 = 0 := by decide +kernel
   have q0 := (setRow_other wr (w.heap.size + 1 + 1) (w.heap.size) #[.int .u64 6346243789798364141, .int .u64 1503914060200516822, .int .u64 0, .int .u64 0] (by omega)).trans ra
   have q1 := (setRow_other wr (w.heap.size + 1 + 1) (w.heap.size + 1) #[.int .u64 6346243789798364141, .int .u64 1503914060200516822, .int .u64 0, .int .u64 0] (by omega)).trans rb
   have q2 := setRow_heap wr (w.heap.size + 1 + 1) _ #[.int .u64 6346243789798364141, .int .u64 1503914060200516822, .int .u64 0, .int .u64 0] _ _ rc
   have q3 := below_setRow hw (show w.heap.size ≤ w.heap.size + 1 + 1 by omega) #[.int .u64 6346243789798364141, .int .u64 1503914060200516822, .int .u64 0, .int .u64 0]
   have q4 := f4.setRow (show 2 < w.heap.size + 1 + 1 by omega) #[.int .u64 6346243789798364141, .int .u64 1503914060200516822, .int .u64 0, .int .u64 0]
   go_wp2_with (first | (refine wpList_load_cell31 rfl 25 _ rfl (2) 2 rfl _ co Tryd.underlying25 ?_) | (refine wpList_store_cell31 rfl 25 _ _ rfl (w.heap.size + 1 + 1) 2 rfl (.int .u64 0) (by first | rfl | (rw [← eb]; rfl)) 51 _ rc (by show 2 < 4; decide) infoW rfl ?_) | fail)
   go_roundw
   case rel => exact ⟨3, by omega, by go_num, q0, q1, .inr (.inr (.inr (.inl ⟨rfl, q2⟩))), q3, q4⟩
   case measure => simp [intOf]
  ·have hd : decide ((3 : Int) < 4) = true := by decide
   have co : wr.cell? ⟨2, 3, none⟩ = some (.int .u64 1152921504606846976) := f4.cell 3
   have eb : bits .and .u64 1152921504606846976 18446744073709551615 = 1152921504606846976 := by decide +kernel
   have q0 := (setRow_other wr (w.heap.size + 1 + 1) (w.heap.size) #[.int .u64 6346243789798364141, .int .u64 1503914060200516822, .int .u64 0, .int .u64 1152921504606846976] (by omega)).trans ra
   have q1 := (setRow_other wr (w.heap.size + 1 + 1) (w.heap.size + 1) #[.int .u64 6346243789798364141, .int .u64 1503914060200516822, .int .u64 0, .int .u64 1152921504606846976] (by omega)).trans rb
   have q2 := setRow_heap wr (w.heap.size + 1 + 1) _ #[.int .u64 6346243789798364141, .int .u64 1503914060200516822, .int .u64 0, .int .u64 1152921504606846976] _ _ rc
   have q3 := below_setRow hw (show w.heap.size ≤ w.heap.size + 1 + 1 by omega) #[.int .u64 6346243789798364141, .int .u64 1503914060200516822, .int .u64 0, .int .u64 1152921504606846976]
   have q4 := f4.setRow (show 2 < w.heap.size + 1 + 1 by omega) #[.int .u64 6346243789798364141, .int .u64 1503914060200516822, .int .u64 0, .int .u64 1152921504606846976]
   go_wp2_with (first | (refine wpList_load_cell31 rfl 25 _ rfl (2) 3 rfl _ co Tryd.underlying25 ?_) | (refine wpList_store_cell31 rfl 25 _ _ rfl (w.heap.size + 1 + 1) 3 rfl (.int .u64 1152921504606846976) (by first | rfl | (rw [← eb]; rfl)) 51 _ rc (by show 3 < 4; decide) infoW rfl ?_) | fail)
   go_roundw
   case rel => exact ⟨4, by omega, by go_num, q0, q1, .inr (.inr (.inr (.inr ⟨rfl, q2⟩))), q3, q4⟩
   case measure => simp [intOf]
  ·have hd : decide ((4 : Int) < 4) = false := by decide
   replace rc : wr.heap[w.heap.size + 1 + 1]? = some (.cells (wd (1 * L19)) 51 (0, 0)) := rc
   go_wp2_with (first | (refine wpList_load_want rfl 51 _ rfl (w.heap.size) rfl 51 (wd A) (0, 0) _ ra Tryd.underlying51 rfl (wd_infoW _) ?_) | (refine wpList_load_want rfl 51 _ rfl (w.heap.size + 1 + 1) rfl 51 (wd (1 * L19)) (0, 0) _ rc Tryd.underlying51 rfl (wd_infoW _) ?_) | fail)
   refine (cP.at _).mono ?_
   rintro e w1 ⟨rfl, hb⟩
   replace ra := keep hb ra
   replace rb := keep hb rb
   replace hw := Below.after hw hb
   clear hb
   go_wp2_with (first | (refine wpList_store_row rfl 51 _ _ rfl (w.heap.size) (wd R) rfl rfl 51 _ ra (wd_infoW _) rfl (wd_one _) ?_; refine wpList_stay ?_) | fail)
   unfold WpStay
   replace rb := (setRow_other w1 (w.heap.size) (w.heap.size + 1) (wd R) (by omega)).trans rb
   replace ra := setRow_heap w1 (w.heap.size) _ (wd R) _ _ ra
   replace hw := below_setRow hw (Nat.le_refl _) (wd R)
   generalize w1.setRow (w.heap.size) (wd R) = w2 at *
   go_wp2_with (first | (refine wpList_load_want rfl 51 _ rfl (w.heap.size) rfl 51 (wd R) (0, 0) _ ra Tryd.underlying51 rfl (wd_infoW _) ?_) | (refine wpList_build_as rfl 53 _ rfl [(0, .agg (wd R))] rfl (wd R) (wd_built R) ?_) | (refine wpList_store_row rfl 53 _ _ rfl (w.heap.size + 1) (wd R) rfl rfl 53 _ rb (wd_infoS _) rfl (wd_one _) ?_) | fail)
   exact bodyPost_ret (v := .agg (wd R)) (results_cell_row Tryd.results55 _ _ (w.heap.size + 1) _ (wd R) _ _ rfl (setRow_heap _ _ _ _ _ _ rb) Tryd.underlying53 rfl (wd_infoS _)) rfl ⟨rfl, below_setRow hw (by omega) _⟩
end Go.Proofs.YtdcpcdkbhgkmlaaDoor
namespace Go.Proofs.YtdcpcdkbhgkmlaaDoor
set_option maxRecDepth 100000
open Go.RowKit Go.Sort
attribute [local go_sem] setCell_drewN alloc_drewN
theorem sub_mod {A B : Int} (hA : 0 ≤ A ∧ A < L19) (hB : 0 ≤ B ∧ B < L19) : ∃ l : Int, (l = 0 ∨ l = 1) ∧ -((A - B) / 115792089237316195423570985008687907853269984665640564039457584007913129639936) = l ∧ ((A - B) % 115792089237316195423570985008687907853269984665640564039457584007913129639936 + l * L19) % 115792089237316195423570985008687907853269984665640564039457584007913129639936 = (A - B) % L19 := by
 unfold L19 at *
 by_cases h : B ≤ A
 ·exact ⟨0, .inl rfl, by omega, by omega⟩
 ·exact ⟨1, .inr rfl, by omega, by omega⟩
theorem a_within {A l : Int} (hA : 0 ≤ A ∧ A < 115792089237316195423570985008687907853269984665640564039457584007913129639936) (hl : l = 0 ∨ l = 1) : GivesO 55 #[.agg (wd A), .int .u64 l] (.agg (wd ((A + l * L19) % 115792089237316195423570985008687907853269984665640564039457584007913129639936))) := by
 rcases hl with rfl | rfl
 ·exact within_0 hA
 ·exact within_1 hA
theorem L_lt : L19 < 115792089237316195423570985008687907853269984665640564039457584007913129639936 := by unfold L19; decide
set_option maxRecDepth 100000 in
set_option maxHeartbeats 8000000 in
theorem a_ssub {A B : Int} (hA : 0 ≤ A ∧ A < L19) (hB : 0 ≤ B ∧ B < L19) : GivesO 24 #[.agg (wd A), .agg (wd B)] (.agg (wd ((A - B) % L19))) := by
 have hL := L_lt
 obtain ⟨l, hl, e1, e2⟩ := sub_mod hA hB
 have cM := a_wminus (A := A) (B := B) ⟨hA.1, by omega⟩ ⟨hB.1, by omega⟩
 have cW := a_within (A := (A - B) % 115792089237316195423570985008687907853269984665640564039457584007913129639936) (l := l) (by omega) hl
 rw [e1] at cM
 rw [e2] at cW
 generalize (A - B) % 115792089237316195423570985008687907853269984665640564039457584007913129639936 = D at *
 generalize (A - B) % L19 = R at *
 clear e1 e2 hl hL hA hB
 intro w hF
 have rp0 : (((w.alloc (.cells (wd A) 53)).alloc (.cells (wd B) 53)).alloc (.cells #[.int .u64 0, .int .u64 0, .int .u64 0, .int .u64 0] 53)).heap[w.heap.size]? = some (.cells (wd A) 53 (0, 0)) := hp3_0 w _ _ _
 have rp1 : (((w.alloc (.cells (wd A) 53)).alloc (.cells (wd B) 53)).alloc (.cells #[.int .u64 0, .int .u64 0, .int .u64 0, .int .u64 0] 53)).heap[w.heap.size + 1]? = some (.cells (wd B) 53 (0, 0)) := hp3_1 w _ _ _
 have rp2 : (((w.alloc (.cells (wd A) 53)).alloc (.cells (wd B) 53)).alloc (.cells #[.int .u64 0, .int .u64 0, .int .u64 0, .int .u64 0] 53)).heap[w.heap.size + 1 + 1]? = some (.cells #[.int .u64 0, .int .u64 0, .int .u64 0, .int .u64 0] 53 (0, 0)) := hp3_2 w _ _ _
 have hw : Below w.heap.size w (((w.alloc (.cells (wd A) 53)).alloc (.cells (wd B) 53)).alloc (.cells #[.int .u64 0, .int .u64 0, .int .u64 0, .int .u64 0] 53)) := ((((Below.refl _ _).alloc (Nat.le_refl _) _).alloc (by simp) _).alloc (by simp; omega) _)
 have hz0 := hF.sz
 have f4 : Ord (((w.alloc (.cells (wd A) 53)).alloc (.cells (wd B) 53)).alloc (.cells #[.int .u64 0, .int .u64 0, .int .u64 0, .int .u64 0] 53)) := (((hF.alloc _).alloc _).alloc _)
 go_enter Tryd.func24, Tryd.ntmps24
 iterate 12 go_step
 generalize (((w.alloc (.cells (wd A) 53)).alloc (.cells (wd B) 53)).alloc (.cells #[.int .u64 0, .int .u64 0, .int .u64 0, .int .u64 0] 53)) = w0 at *
 go_wp2_with (first | (refine wpList_load_want rfl 53 _ rfl (w.heap.size) rfl 53 (wd A) (0, 0) _ rp0 Tryd.underlying53 rfl (wd_infoS A) ?_) | (refine wpList_load_want rfl 53 _ rfl (w.heap.size + 1) rfl 53 (wd B) (0, 0) _ rp1 Tryd.underlying53 rfl (wd_infoS B) ?_) | (refine wpList_load_want rfl 53 _ rfl (w.heap.size + 1 + 1) rfl 53 #[.int .u64 0, .int .u64 0, .int .u64 0, .int .u64 0] (0, 0) _ rp2 Tryd.underlying53 rfl (by kernel_rfl) ?_) | (refine wpList_load_part rfl 51 _ rfl (w.heap.size) 0 rfl 53 (wd A) (0, 0) (wd A) _ rp0 (wd_part _) Tryd.underlying51 rfl (wd_infoW _) ?_) | (refine wpList_load_part rfl 51 _ rfl (w.heap.size + 1) 0 rfl 53 (wd B) (0, 0) (wd B) _ rp1 (wd_part _) Tryd.underlying51 rfl (wd_infoW _) ?_) | (refine wpList_load_part rfl 51 _ rfl (w.heap.size + 1 + 1) 0 rfl 53 #[.int .u64 0, .int .u64 0, .int .u64 0, .int .u64 0] (0, 0) #[.int .u64 0, .int .u64 0, .int .u64 0, .int .u64 0] _ rp2 (wd_part _) Tryd.underlying51 rfl (wd_infoW _) ?_) | fail)
 refine (cM.at _).mono ?_
 rintro e w2 ⟨rfl, hb⟩
 replace rp0 := keep hb rp0
 replace rp1 := keep hb rp1
 replace rp2 := keep hb rp2
 replace hw := Below.after hw hb
 replace f4 := f4.below hb
 clear hb
 go_wp2_with (first | (refine wpList_load_want rfl 53 _ rfl (w.heap.size) rfl 53 (wd A) (0, 0) _ rp0 Tryd.underlying53 rfl (wd_infoS A) ?_) | (refine wpList_load_want rfl 53 _ rfl (w.heap.size + 1) rfl 53 (wd B) (0, 0) _ rp1 Tryd.underlying53 rfl (wd_infoS B) ?_) | (refine wpList_load_want rfl 53 _ rfl (w.heap.size + 1 + 1) rfl 53 #[.int .u64 0, .int .u64 0, .int .u64 0, .int .u64 0] (0, 0) _ rp2 Tryd.underlying53 rfl (by kernel_rfl) ?_) | (refine wpList_load_part rfl 51 _ rfl (w.heap.size) 0 rfl 53 (wd A) (0, 0) (wd A) _ rp0 (wd_part _) Tryd.underlying51 rfl (wd_infoW _) ?_) | (refine wpList_load_part rfl 51 _ rfl (w.heap.size + 1) 0 rfl 53 (wd B) (0, 0) (wd B) _ rp1 (wd_part _) Tryd.underlying51 rfl (wd_infoW _) ?_) | (refine wpList_load_part rfl 51 _ rfl (w.heap.size + 1 + 1) 0 rfl 53 #[.int .u64 0, .int .u64 0, .int .u64 0, .int .u64 0] (0, 0) #[.int .u64 0, .int .u64 0, .int .u64 0, .int .u64 0] _ rp2 (wd_part _) Tryd.underlying51 rfl (wd_infoW _) ?_) | fail)
 refine (cW.at f4).mono ?_
 rintro e w4 ⟨rfl, hb⟩
 replace rp0 := keep hb rp0
 replace rp1 := keep hb rp1
 replace rp2 := keep hb rp2
 replace hw := Below.after hw hb
 replace f4 := f4.below hb
 clear hb
 go_wp2_with (first | (refine wpList_store_row rfl 53 _ _ rfl (w.heap.size + 1 + 1) (wd R) rfl rfl 53 _ rp2 (wd_infoS R) rfl (wd_one R) ?_) | (refine wpList_load_want rfl 53 _ rfl (w.heap.size) rfl 53 (wd A) (0, 0) _ rp0 Tryd.underlying53 rfl (wd_infoS A) ?_) | (refine wpList_load_want rfl 53 _ rfl (w.heap.size + 1) rfl 53 (wd B) (0, 0) _ rp1 Tryd.underlying53 rfl (wd_infoS B) ?_) | (refine wpList_load_want rfl 53 _ rfl (w.heap.size + 1 + 1) rfl 53 #[.int .u64 0, .int .u64 0, .int .u64 0, .int .u64 0] (0, 0) _ rp2 Tryd.underlying53 rfl (by kernel_rfl) ?_) | (refine wpList_load_part rfl 51 _ rfl (w.heap.size) 0 rfl 53 (wd A) (0, 0) (wd A) _ rp0 (wd_part _) Tryd.underlying51 rfl (wd_infoW _) ?_) | (refine wpList_load_part rfl 51 _ rfl (w.heap.size + 1) 0 rfl 53 (wd B) (0, 0) (wd B) _ rp1 (wd_part _) Tryd.underlying51 rfl (wd_infoW _) ?_) | (refine wpList_load_part rfl 51 _ rfl (w.heap.size + 1 + 1) 0 rfl 53 #[.int .u64 0, .int .u64 0, .int .u64 0, .int .u64 0] (0, 0) #[.int .u64 0, .int .u64 0, .int .u64 0, .int .u64 0] _ rp2 (wd_part _) Tryd.underlying51 rfl (wd_infoW _) ?_) | fail)
 exact bodyPost_ret (v := .agg (wd R)) (results_cell_row Tryd.results24 _ _ (w.heap.size + 1 + 1) _ (wd R) _ _ rfl (setRow_heap _ _ _ _ _ _ rp2) Tryd.underlying53 rfl (wd_infoS R)) rfl ⟨rfl, below_setRow hw (by omega) _⟩
set_option maxRecDepth 100000 in
set_option maxHeartbeats 8000000 in
theorem a_sneg {A : Int} (hA : 0 ≤ A ∧ A < L19) : GivesO 28 #[.agg (wd A)] (.agg (wd (-A % L19))) := by
 have cS := a_ssub (A := 0) (B := A) (by unfold L19; decide) hA
 rw [Int.zero_sub] at cS
 generalize -A % L19 = R at *
 clear hA
 intro w hF
 have rp0 : ((w.alloc (.cells (wd A) 53)).alloc (.cells #[.int .u64 0, .int .u64 0, .int .u64 0, .int .u64 0] 53)).heap[w.heap.size]? = some (.cells (wd A) 53 (0, 0)) := hp2_0 w _ _
 have rp1 : ((w.alloc (.cells (wd A) 53)).alloc (.cells #[.int .u64 0, .int .u64 0, .int .u64 0, .int .u64 0] 53)).heap[w.heap.size + 1]? = some (.cells #[.int .u64 0, .int .u64 0, .int .u64 0, .int .u64 0] 53 (0, 0)) := hp2_1 w _ _
 have hw : Below w.heap.size w ((w.alloc (.cells (wd A) 53)).alloc (.cells #[.int .u64 0, .int .u64 0, .int .u64 0, .int .u64 0] 53)) := (((Below.refl _ _).alloc (Nat.le_refl _) _).alloc (by simp) _)
 have hz0 := hF.sz
 have f4 : Ord ((w.alloc (.cells (wd A) 53)).alloc (.cells #[.int .u64 0, .int .u64 0, .int .u64 0, .int .u64 0] 53)) := ((hF.alloc _).alloc _)
 go_enter Tryd.func28, Tryd.ntmps28
 iterate 9 go_step
 generalize ((w.alloc (.cells (wd A) 53)).alloc (.cells #[.int .u64 0, .int .u64 0, .int .u64 0, .int .u64 0] 53)) = w0 at *
 go_wp2_with (first | (refine wpList_build_as rfl 53 _ rfl [] rfl (wd 0) (by kernel_rfl) ?_) | (refine wpList_load_want rfl 53 _ rfl (w.heap.size) rfl 53 (wd A) (0, 0) _ rp0 Tryd.underlying53 rfl (wd_infoS A) ?_) | (refine wpList_load_want rfl 53 _ rfl (w.heap.size + 1) rfl 53 #[.int .u64 0, .int .u64 0, .int .u64 0, .int .u64 0] (0, 0) _ rp1 Tryd.underlying53 rfl (by kernel_rfl) ?_) | (refine wpList_load_part rfl 51 _ rfl (w.heap.size) 0 rfl 53 (wd A) (0, 0) (wd A) _ rp0 (wd_part _) Tryd.underlying51 rfl (wd_infoW _) ?_) | (refine wpList_load_part rfl 51 _ rfl (w.heap.size + 1) 0 rfl 53 #[.int .u64 0, .int .u64 0, .int .u64 0, .int .u64 0] (0, 0) #[.int .u64 0, .int .u64 0, .int .u64 0, .int .u64 0] _ rp1 (wd_part _) Tryd.underlying51 rfl (wd_infoW _) ?_) | fail)
 refine (cS.at f4).mono ?_
 rintro e w1 ⟨rfl, hb⟩
 replace rp0 := keep hb rp0
 replace rp1 := keep hb rp1
 replace hw := Below.after hw hb
 replace f4 := f4.below hb
 clear hb
 go_wp2_with (first | (refine wpList_store_row rfl 53 _ _ rfl (w.heap.size + 1) (wd R) rfl rfl 53 _ rp1 (wd_infoS R) rfl (wd_one R) ?_) | (refine wpList_load_want rfl 53 _ rfl (w.heap.size) rfl 53 (wd A) (0, 0) _ rp0 Tryd.underlying53 rfl (wd_infoS A) ?_) | (refine wpList_load_want rfl 53 _ rfl (w.heap.size + 1) rfl 53 #[.int .u64 0, .int .u64 0, .int .u64 0, .int .u64 0] (0, 0) _ rp1 Tryd.underlying53 rfl (by kernel_rfl) ?_) | (refine wpList_load_part rfl 51 _ rfl (w.heap.size) 0 rfl 53 (wd A) (0, 0) (wd A) _ rp0 (wd_part _) Tryd.underlying51 rfl (wd_infoW _) ?_) | (refine wpList_load_part rfl 51 _ rfl (w.heap.size + 1) 0 rfl 53 #[.int .u64 0, .int .u64 0, .int .u64 0, .int .u64 0] (0, 0) #[.int .u64 0, .int .u64 0, .int .u64 0, .int .u64 0] _ rp1 (wd_part _) Tryd.underlying51 rfl (wd_infoW _) ?_) | fail)
 exact bodyPost_ret (v := .agg (wd R)) (results_cell_row Tryd.results28 _ _ (w.heap.size + 1) _ (wd R) _ _ rfl (setRow_heap _ _ _ _ _ _ rp1) Tryd.underlying53 rfl (wd_infoS R)) rfl ⟨rfl, below_setRow hw (by omega) _⟩
set_option maxRecDepth 100000 in
set_option maxHeartbeats 8000000 in
theorem a_sadd {A B : Int} (hA : 0 ≤ A ∧ A < L19) (hB : 0 ≤ B ∧ B < L19) : GivesO 22 #[.agg (wd A), .agg (wd B)] (.agg (wd ((A + B) % L19))) := by
 have cN := a_sneg hB
 have cS := a_ssub (A := A) (B := -B % L19) hA (by unfold L19; omega)
 rw [show (A - -B % L19) % L19 = (A + B) % L19 by unfold L19; omega] at cS
 generalize -B % L19 = Ng at *
 generalize (A + B) % L19 = R at *
 clear hA hB
 intro w hF
 go_enter Tryd.func22, Tryd.ntmps22
 go_wp2
 have rp0 : (((w.alloc (.cells (wd A) 53)).alloc (.cells (wd B) 53)).alloc (.cells #[.int .u64 0, .int .u64 0, .int .u64 0, .int .u64 0] 53)).heap[w.heap.size]? = some (.cells (wd A) 53 (0, 0)) := hp3_0 w _ _ _
 have rp1 : (((w.alloc (.cells (wd A) 53)).alloc (.cells (wd B) 53)).alloc (.cells #[.int .u64 0, .int .u64 0, .int .u64 0, .int .u64 0] 53)).heap[w.heap.size + 1]? = some (.cells (wd B) 53 (0, 0)) := hp3_1 w _ _ _
 have rp2 : (((w.alloc (.cells (wd A) 53)).alloc (.cells (wd B) 53)).alloc (.cells #[.int .u64 0, .int .u64 0, .int .u64 0, .int .u64 0] 53)).heap[w.heap.size + 1 + 1]? = some (.cells #[.int .u64 0, .int .u64 0, .int .u64 0, .int .u64 0] 53 (0, 0)) := hp3_2 w _ _ _
 have hw : Below w.heap.size w (((w.alloc (.cells (wd A) 53)).alloc (.cells (wd B) 53)).alloc (.cells #[.int .u64 0, .int .u64 0, .int .u64 0, .int .u64 0] 53)) := ((((Below.refl _ _).alloc (Nat.le_refl _) _).alloc (by simp) _).alloc (by simp; omega) _)
 have hz0 := hF.sz
 have f4 : Ord (((w.alloc (.cells (wd A) 53)).alloc (.cells (wd B) 53)).alloc (.cells #[.int .u64 0, .int .u64 0, .int .u64 0, .int .u64 0] 53)) := (((hF.alloc _).alloc _).alloc _)
 generalize (((w.alloc (.cells (wd A) 53)).alloc (.cells (wd B) 53)).alloc (.cells #[.int .u64 0, .int .u64 0, .int .u64 0, .int .u64 0] 53)) = w0 at *
 have Hrp0 := keepr rp0
 have Hrp1 := keepr rp1
 have Hrp2 := keepr rp2
 refine wp_region_tail (C := fun w' => ∃ p : Regrown, w' = grow (redrawn w0 p.d) p.os) 4 _ rfl rfl rfl (by kernel_rfl) (by kernel_rfl) (by kernel_rfl) (by kernel_rfl) ⟨⟨w0.drawn + 1, #[]⟩, by rw [grow_empty]; rfl⟩ ?_
 dsimp only [List.set, idle]
 refine wpQuiet_load_row rfl 53 _ rfl (w.heap.size) rfl 53 (wd A) (0, 0) _ Hrp0.out Tryd.underlying53 rfl (wd_infoS A) ?_
 simp only [Act.put, ZPd, ZPe, ZPf]
 refine wpQuiet_load_row rfl 53 _ rfl (w.heap.size + 1) rfl 53 (wd B) (0, 0) _ Hrp1.out Tryd.underlying53 rfl (wd_infoS B) ?_
 simp only [Act.put, ZPd, ZPe, ZPf]
 go_big_quiet_step (exact cN.re f4)
 go_big_quiet_step (exact cS.re f4)
 refine wpQuiet_idle rfl rfl rfl ?_
 rintro _ ⟨p, rfl⟩
 have hb := below_regrown w0 p.d p.os
 generalize grow (redrawn w0 p.d) p.os = w3 at *
 replace rp0 := keep hb rp0
 replace rp1 := keep hb rp1
 replace rp2 := keep hb rp2
 replace hw := Below.after hw hb
 replace f4 := f4.below hb
 clear hb
 clear Hrp0 Hrp1 Hrp2
 go_wp2_with (first | (refine wpList_store_row rfl 53 _ _ rfl (w.heap.size + 1 + 1) (wd R) rfl rfl 53 _ rp2 (wd_infoS R) ((show _ = 4 from rfl).trans (wd_size R).symm) (wd_one R) ?_) | fail)
 exact bodyPost_ret (v := .agg (wd R)) (results_cell_row Tryd.results22 _ _ (w.heap.size + 1 + 1) _ (wd R) _ _ rfl (setRow_heap _ _ _ _ _ _ rp2) Tryd.underlying53 rfl (wd_infoS R)) rfl ⟨rfl, below_setRow hw (by omega) _⟩
end Go.Proofs.YtdcpcdkbhgkmlaaDoor
namespace Go.Proofs.YtdcpcdkbhgkmlaaDoor
set_option maxRecDepth 100000
open Go.RowKit Go.Sort
attribute [local go_sem] setCell_drewN alloc_drewN
def WdO (r : Array Value) : Prop := r.size = 4 ∧ r.all (·.oneCell') = true
theorem wdo (A : Int) : WdO (wd A) := ⟨wd_size A, wd_one A⟩
theorem WdO.infoW {r : Array Value} (h : WdO r) : (Tryd.prog.info? 51).map (·.size) = some r.size := by rw [h.1]; kernel_rfl
theorem WdO.infoS {r : Array Value} (h : WdO r) : (Tryd.prog.info? 53).map (·.size) = some r.size := by rw [h.1]; kernel_rfl
theorem WdO.part {r : Array Value} (_h : WdO r) : r.extract 0 (0 + r.size) = r := by simp
theorem WdO.fit {r : Array Value} (h : WdO r) : (show Array Value from #[.int .u64 0, .int .u64 0, .int .u64 0, .int .u64 0]).size = r.size := h.1.symm
theorem WdO.fits {r s : Array Value} (h : WdO r) (g : WdO s) : r.size = s.size := h.1.trans g.1.symm
theorem or16 (h y : Int) (hh : 0 ≤ h ∧ h < 64) (hy : 0 ≤ y ∧ y < 16) : bits .or .u64 (h * 16) y = h * 16 + y := by
 obtain ⟨a, rfl⟩ := Int.eq_ofNat_of_zero_le hh.1
 obtain ⟨b, rfl⟩ := Int.eq_ofNat_of_zero_le hy.1
 have : ∀ a : Nat, a < 64 → ∀ b : Nat, b < 16 → bits .or .u64 ((a : Int) * 16) (b : Int) = (a : Int) * 16 + b := by decide +kernel
 exact this a (by omega) b (by omega)
theorem next_fin {V W H q Pq : Int} (hW : 0 ≤ W ∧ W < 115792089237316195423570985008687907853269984665640564039457584007913129639936) (hV : V = W + 115792089237316195423570985008687907853269984665640564039457584007913129639936 * H) (hP : 0 ≤ Pq ∧ Pq < 115792089237316195423570985008687907853269984665640564039457584007913129639936) (hq : q * L19 = Pq + 115792089237316195423570985008687907853269984665640564039457584007913129639936 * H) (hx : (0 ≤ V - q * L19 ∧ V - q * L19 = V % L19) ∨ (V - q * L19 < 0 ∧ V - q * L19 + L19 = V % L19)) : ∃ l : Int, (l = 0 ∨ l = 1) ∧ -((W - Pq) / 115792089237316195423570985008687907853269984665640564039457584007913129639936) = l ∧ ((W - Pq) % 115792089237316195423570985008687907853269984665640564039457584007913129639936 + l * L19) % 115792089237316195423570985008687907853269984665640564039457584007913129639936 = V % L19 := by
 have b : 0 ≤ V % L19 ∧ V % L19 < L19 := by unfold L19; omega
 have hL := L_lt
 generalize V % L19 = R at *
 generalize q * L19 = QL at *
 rcases hx with ⟨h1, h2⟩ | ⟨h1, h2⟩
 ·exact ⟨0, .inl rfl, by omega, by omega⟩
 ·refine ⟨1, .inr rfl, by omega, ?_⟩
  rw [Int.one_mul]
  generalize L19 = LL at *
  omega
theorem next_parts {r a m : Int} (hr : 0 ≤ r ∧ r < L19) (ha : 0 ≤ a ∧ a < L19) (hm : 0 ≤ m ∧ m < 256) : ∃ W1 H1 W2 H2 W O W3 Q Pq PH D l : Int,
 (r * 256 % 115792089237316195423570985008687907853269984665640564039457584007913129639936 = W1 ∧ r * 256 / 115792089237316195423570985008687907853269984665640564039457584007913129639936 = H1) ∧ (a * m % 115792089237316195423570985008687907853269984665640564039457584007913129639936 = W2 ∧ a * m / 115792089237316195423570985008687907853269984665640564039457584007913129639936 = H2) ∧ ((W1 + W2) % 115792089237316195423570985008687907853269984665640564039457584007913129639936 = W ∧ (W1 + W2) / 115792089237316195423570985008687907853269984665640564039457584007913129639936 = O) ∧ (W / 6277101735386680763835789423207666416102355444464034512896 % 18446744073709551616 = W3) ∧ (L19 * Q % 115792089237316195423570985008687907853269984665640564039457584007913129639936 = Pq ∧ L19 * Q / 115792089237316195423570985008687907853269984665640564039457584007913129639936 = PH) ∧ ((W - Pq) % 115792089237316195423570985008687907853269984665640564039457584007913129639936 = D ∧ -((W - Pq) / 115792089237316195423570985008687907853269984665640564039457584007913129639936) = l) ∧ (l = 0 ∨ l = 1) ∧ (D + l * L19) % 115792089237316195423570985008687907853269984665640564039457584007913129639936 = (256 * r + m * a) % L19 ∧
 (0 ≤ W1 ∧ W1 < 115792089237316195423570985008687907853269984665640564039457584007913129639936) ∧ (0 ≤ W2 ∧ W2 < 115792089237316195423570985008687907853269984665640564039457584007913129639936) ∧ (0 ≤ W ∧ W < 115792089237316195423570985008687907853269984665640564039457584007913129639936) ∧ (0 ≤ Pq ∧ Pq < 115792089237316195423570985008687907853269984665640564039457584007913129639936) ∧ (0 ≤ D ∧ D < 115792089237316195423570985008687907853269984665640564039457584007913129639936) ∧ (0 ≤ H1 ∧ H1 < 64) ∧ (0 ≤ H2 ∧ H2 < 64) ∧ (0 ≤ O ∧ O < 2) ∧ (0 ≤ H1 + (H2 + O) ∧ H1 + (H2 + O) < 64) ∧ (0 ≤ W3 ∧ W3 < 18446744073709551616) ∧ (0 ≤ Q ∧ Q < 1024) ∧ (H1 + (H2 + O)) * 16 + W3 / 1152921504606846976 = Q := by
 have hma : 0 ≤ a * m ∧ a * m ≤ 255 * (L19 - 1) := ⟨Int.mul_nonneg ha.1 hm.1, by
  have h1 : a * m ≤ (L19 - 1) * m := Int.mul_le_mul_of_nonneg_right (by omega) hm.1
  have h2 : (L19 - 1) * m ≤ (L19 - 1) * 255 := Int.mul_le_mul_of_nonneg_left (by omega) (by unfold L19; decide)
  omega⟩
 have hcm : m * a = a * m := Int.mul_comm _ _
 obtain ⟨n1, n2, n3⟩ := next_w hr ha hm (V := 256 * r + m * a) rfl rfl (by rw [hcm]; exact hma)
 rw [hcm] at *
 generalize hp : a * m = p at *
 obtain ⟨Q, hQ⟩ : ∃ Q, Q = (256 * r + p) / 7237005577332262213973186563042994240829374041602535252466099000494570602496 := ⟨_, rfl⟩
 rw [← hQ] at n1 n2 n3
 obtain ⟨l, hl, e1, e2⟩ := next_fin (V := 256 * r + p) (W := (256 * r + p) % 115792089237316195423570985008687907853269984665640564039457584007913129639936) (H := (256 * r + p) / 115792089237316195423570985008687907853269984665640564039457584007913129639936) (q := Q) (Pq := Q * L19 % 115792089237316195423570985008687907853269984665640564039457584007913129639936) (by omega) (by omega) (by omega) (by rw [n2]; generalize Q * L19 = QL; omega) n3
 have hc2 : L19 * Q = Q * L19 := Int.mul_comm _ _
 have hVb : 0 ≤ 256 * r + p ∧ 256 * r + p < 512 * L19 := by omega
 have hW : (r * 256 % 115792089237316195423570985008687907853269984665640564039457584007913129639936 + p % 115792089237316195423570985008687907853269984665640564039457584007913129639936) % 115792089237316195423570985008687907853269984665640564039457584007913129639936 = (256 * r + p) % 115792089237316195423570985008687907853269984665640564039457584007913129639936 := by omega
 refine ⟨_, _, _, _, _, _, _, Q, _, _, _, l, ⟨rfl, rfl⟩, ⟨rfl, rfl⟩, ⟨hW, rfl⟩, rfl, ⟨by rw [hc2], rfl⟩, ⟨rfl, e1⟩, hl, e2, ?_, ?_, ?_, ?_, ?_, ?_, ?_, ?_, ?_, ?_, n1, ?_⟩
 all_goals (clear e1 e2 n2 n3 hW hc2 hl)
 all_goals (unfold L19 at *)
 all_goals omega
set_option maxRecDepth 100000 in
set_option maxHeartbeats 8000000 in
theorem a_next {r a m : Int} (hr : 0 ≤ r ∧ r < L19) (ha : 0 ≤ a ∧ a < L19) (hm : 0 ≤ m ∧ m < 256) : GivesO 86 #[.agg (wd r), .agg (wd a), .int .u8 m] (.agg (wd ((256 * r + m * a) % L19))) := by
 have hL := L_lt
 obtain ⟨W1, H1, W2, H2, W, O, W3, Q, Pq, PH, D, l, ⟨a1, a2⟩, ⟨a3, a4⟩, ⟨a5, a6⟩, hW3, ⟨a7, a8⟩, ⟨a9, a10⟩, hl, a11, b1, b2, b3, b4, b5, b6, b7, b8, b9, b10, b11, b12⟩ := next_parts hr ha hm
 have c1 := a_wtimes (A := r) (B := 256) ⟨hr.1, by omega⟩ (by decide)
 rw [a1, a2] at c1
 have c2 := a_wtimes (A := a) (B := m) ⟨ha.1, by omega⟩ (by omega)
 rw [a3, a4] at c2
 have c3 := a_wplus b1 b2
 rw [a5, a6] at c3
 have c5 := a_wtimes (A := L19) (B := Q) (by unfold L19; decide) (by omega)
 rw [a7, a8] at c5
 have c6 := a_wminus b3 b4
 rw [a9, a10] at c6
 have c7 := a_within b5 hl
 rw [a11] at c7
 have eo := or16 (H1 + (H2 + O)) (W3 / 1152921504606846976) b9 (by omega)
 rw [b12] at eo
 generalize (256 * r + m * a) % L19 = R at *
 have hx3 : (wd W)[3]? = some (.int .u64 W3) := by rw [← hW3]; rfl
 have o_r := wdo r
 generalize wd r = x_r at *
 have o_a := wdo a
 generalize wd a = x_a at *
 have o_W1 := wdo W1
 generalize wd W1 = x_W1 at *
 have o_W2 := wdo W2
 generalize wd W2 = x_W2 at *
 have o_W := wdo W
 generalize wd W = x_W at *
 have o_Pq := wdo Pq
 generalize wd Pq = x_Pq at *
 have o_D := wdo D
 generalize wd D = x_D at *
 have o_R := wdo R
 generalize wd R = x_R at *
 clear hW3
 clear a1 a2 a3 a4 a5 a6 a7 a8 a9 a10 a11 b1 b2 b3 b4 b5 b12 hl hr ha hL
 intro w hF
 have rp0 : (((w.alloc (.cells x_r 53)).alloc (.cells x_a 53)).alloc (.cells #[.int .u64 0, .int .u64 0, .int .u64 0, .int .u64 0] 53)).heap[w.heap.size]? = some (.cells x_r 53 (0, 0)) := hp3_0 w _ _ _
 have rp1 : (((w.alloc (.cells x_r 53)).alloc (.cells x_a 53)).alloc (.cells #[.int .u64 0, .int .u64 0, .int .u64 0, .int .u64 0] 53)).heap[w.heap.size + 1]? = some (.cells x_a 53 (0, 0)) := hp3_1 w _ _ _
 have rp2 : (((w.alloc (.cells x_r 53)).alloc (.cells x_a 53)).alloc (.cells #[.int .u64 0, .int .u64 0, .int .u64 0, .int .u64 0] 53)).heap[w.heap.size + 1 + 1]? = some (.cells #[.int .u64 0, .int .u64 0, .int .u64 0, .int .u64 0] 53 (0, 0)) := hp3_2 w _ _ _
 have hw : Below w.heap.size w (((w.alloc (.cells x_r 53)).alloc (.cells x_a 53)).alloc (.cells #[.int .u64 0, .int .u64 0, .int .u64 0, .int .u64 0] 53)) := ((((Below.refl _ _).alloc (Nat.le_refl _) _).alloc (by simp) _).alloc (by simp; omega) _)
 have hz0 := hF.sz
 have f4 : Ord (((w.alloc (.cells x_r 53)).alloc (.cells x_a 53)).alloc (.cells #[.int .u64 0, .int .u64 0, .int .u64 0, .int .u64 0] 53)) := (((hF.alloc _).alloc _).alloc _)
 go_enter Tryd.func86, Tryd.ntmps86
 iterate 12 go_step
 generalize (((w.alloc (.cells x_r 53)).alloc (.cells x_a 53)).alloc (.cells #[.int .u64 0, .int .u64 0, .int .u64 0, .int .u64 0] 53)) = w0 at *
 go_wp2_with (first | (refine wpList_load_want rfl 53 _ rfl (w.heap.size) rfl 53 x_r (0, 0) _ rp0 Tryd.underlying53 rfl o_r.infoS ?_) | (refine wpList_load_want rfl 53 _ rfl (w.heap.size + 1) rfl 53 x_a (0, 0) _ rp1 Tryd.underlying53 rfl o_a.infoS ?_) | (refine wpList_load_want rfl 53 _ rfl (w.heap.size + 1 + 1) rfl 53 #[.int .u64 0, .int .u64 0, .int .u64 0, .int .u64 0] (0, 0) _ rp2 Tryd.underlying53 rfl (by kernel_rfl) ?_) | (refine wpList_load_part rfl 51 _ rfl (w.heap.size) 0 rfl 53 x_r (0, 0) x_r _ rp0 o_r.part Tryd.underlying51 rfl o_r.infoW ?_) | (refine wpList_load_part rfl 51 _ rfl (w.heap.size + 1) 0 rfl 53 x_a (0, 0) x_a _ rp1 o_a.part Tryd.underlying51 rfl o_a.infoW ?_) | fail)
 refine (c1.at _).mono ?_
 rintro e w2 ⟨rfl, hb⟩
 replace rp0 := keep hb rp0
 replace rp1 := keep hb rp1
 replace rp2 := keep hb rp2
 replace hw := Below.after hw hb
 replace f4 := f4.below hb
 clear hb
 go_wp2_with (first | (refine wpList_store_row rfl 51 _ _ rfl (w2.heap.size) x_W1 rfl rfl 51 #[.int .u64 0, .int .u64 0, .int .u64 0, .int .u64 0] (hp1_0 w2 _) o_W1.infoW o_W1.fit o_W1.2 ?_; rw [setRow_alloc_new _ _ _ _ _ _ (by simp)]; refine wpList_stay ?_) | fail)
 unfold WpStay
 try simp only [Act.put]
 have rl7 : (w2.alloc (.cells x_W1 51)).heap[w2.heap.size]? = some (.cells x_W1 51 (0, 0)) := hp1_0 w2 _
 have hb : Below w2.heap.size w2 (w2.alloc (.cells x_W1 51)) := ((Below.refl _ _).alloc (Nat.le_refl _) _)
 generalize (w2.alloc (.cells x_W1 51)) = w7 at *
 have yg7_0 := lt_of_row rp0
 have yg7_1 := lt_of_row rp1
 have yg7_2 := lt_of_row rp2
 have yg7 := hw.size
 have zg7 := f4.sz
 replace rp0 := keep hb rp0
 replace rp1 := keep hb rp1
 replace rp2 := keep hb rp2
 replace hw := Below.after hw hb
 replace f4 := f4.below hb
 clear hb
 generalize w2.heap.size = g7 at *
 clear w2
 go_wp2_with (first | (refine wpList_load_want rfl 53 _ rfl (w.heap.size) rfl 53 x_r (0, 0) _ rp0 Tryd.underlying53 rfl o_r.infoS ?_) | (refine wpList_load_want rfl 53 _ rfl (w.heap.size + 1) rfl 53 x_a (0, 0) _ rp1 Tryd.underlying53 rfl o_a.infoS ?_) | (refine wpList_load_want rfl 53 _ rfl (w.heap.size + 1 + 1) rfl 53 #[.int .u64 0, .int .u64 0, .int .u64 0, .int .u64 0] (0, 0) _ rp2 Tryd.underlying53 rfl (by kernel_rfl) ?_) | (refine wpList_load_want rfl 51 _ rfl (g7) rfl 51 x_W1 (0, 0) _ rl7 Tryd.underlying51 rfl o_W1.infoW ?_) | (refine wpList_load_part rfl 51 _ rfl (w.heap.size) 0 rfl 53 x_r (0, 0) x_r _ rp0 o_r.part Tryd.underlying51 rfl o_r.infoW ?_) | (refine wpList_load_part rfl 51 _ rfl (w.heap.size + 1) 0 rfl 53 x_a (0, 0) x_a _ rp1 o_a.part Tryd.underlying51 rfl o_a.infoW ?_) | fail)
 refine (c2.at _).mono ?_
 rintro e w8 ⟨rfl, hb⟩
 replace rp0 := keep hb rp0
 replace rp1 := keep hb rp1
 replace rp2 := keep hb rp2
 replace rl7 := keep hb rl7
 replace hw := Below.after hw hb
 replace f4 := f4.below hb
 clear hb
 go_wp2_with (first | (refine wpList_store_row rfl 51 _ _ rfl (w8.heap.size) x_W2 rfl rfl 51 #[.int .u64 0, .int .u64 0, .int .u64 0, .int .u64 0] (hp1_0 w8 _) o_W2.infoW o_W2.fit o_W2.2 ?_; rw [setRow_alloc_new _ _ _ _ _ _ (by simp)]; refine wpList_stay ?_) | fail)
 unfold WpStay
 try simp only [Act.put]
 have rl9 : (w8.alloc (.cells x_W2 51)).heap[w8.heap.size]? = some (.cells x_W2 51 (0, 0)) := hp1_0 w8 _
 have hb : Below w8.heap.size w8 (w8.alloc (.cells x_W2 51)) := ((Below.refl _ _).alloc (Nat.le_refl _) _)
 generalize (w8.alloc (.cells x_W2 51)) = w9 at *
 have yg9_0 := lt_of_row rp0
 have yg9_1 := lt_of_row rp1
 have yg9_2 := lt_of_row rp2
 have yg9_3 := lt_of_row rl7
 have yg9 := hw.size
 have zg9 := f4.sz
 replace rp0 := keep hb rp0
 replace rp1 := keep hb rp1
 replace rp2 := keep hb rp2
 replace rl7 := keep hb rl7
 replace hw := Below.after hw hb
 replace f4 := f4.below hb
 clear hb
 generalize w8.heap.size = g9 at *
 clear w8
 go_wp2_with (first | (refine wpList_load_want rfl 53 _ rfl (w.heap.size) rfl 53 x_r (0, 0) _ rp0 Tryd.underlying53 rfl o_r.infoS ?_) | (refine wpList_load_want rfl 53 _ rfl (w.heap.size + 1) rfl 53 x_a (0, 0) _ rp1 Tryd.underlying53 rfl o_a.infoS ?_) | (refine wpList_load_want rfl 53 _ rfl (w.heap.size + 1 + 1) rfl 53 #[.int .u64 0, .int .u64 0, .int .u64 0, .int .u64 0] (0, 0) _ rp2 Tryd.underlying53 rfl (by kernel_rfl) ?_) | (refine wpList_load_want rfl 51 _ rfl (g7) rfl 51 x_W1 (0, 0) _ rl7 Tryd.underlying51 rfl o_W1.infoW ?_) | (refine wpList_load_want rfl 51 _ rfl (g9) rfl 51 x_W2 (0, 0) _ rl9 Tryd.underlying51 rfl o_W2.infoW ?_) | (refine wpList_load_part rfl 51 _ rfl (w.heap.size) 0 rfl 53 x_r (0, 0) x_r _ rp0 o_r.part Tryd.underlying51 rfl o_r.infoW ?_) | (refine wpList_load_part rfl 51 _ rfl (w.heap.size + 1) 0 rfl 53 x_a (0, 0) x_a _ rp1 o_a.part Tryd.underlying51 rfl o_a.infoW ?_) | fail)
 refine (c3.at _).mono ?_
 rintro e w4 ⟨rfl, hb⟩
 replace rp0 := keep hb rp0
 replace rp1 := keep hb rp1
 replace rp2 := keep hb rp2
 replace rl7 := keep hb rl7
 replace rl9 := keep hb rl9
 replace hw := Below.after hw hb
 replace f4 := f4.below hb
 clear hb
 go_wp2_with (first | (refine wpList_store_row rfl 51 _ _ rfl (g7) x_W rfl rfl 51 _ rl7 o_W.infoW (o_W1.fits o_W) o_W.2 ?_; refine wpList_stay ?_) | fail)
 unfold WpStay
 try simp only [Act.put]
 replace rp0 := (setRow_other w4 (g7) (w.heap.size) x_W (by first | assumption | omega)).trans rp0
 replace rp1 := (setRow_other w4 (g7) (w.heap.size + 1) x_W (by first | assumption | omega)).trans rp1
 replace rp2 := (setRow_other w4 (g7) (w.heap.size + 1 + 1) x_W (by first | assumption | omega)).trans rp2
 replace rl9 := (setRow_other w4 (g7) (g9) x_W (by first | assumption | omega)).trans rl9
 replace rl7 := setRow_heap w4 (g7) _ x_W _ _ rl7
 replace hw := below_setRow hw (show w.heap.size ≤ g7 by first | assumption | omega) x_W
 replace f4 := f4.setRow (show 2 < g7 by first | assumption | omega) x_W
 generalize w4.setRow (g7) x_W = wA at *
 have c73 : wA.cell? ⟨g7, 3, none⟩ = some (.int .u64 W3) := (cell_of_row wA g7 3 _ _ _ rl7).trans hx3
 obtain ⟨tO, fO, rO⟩ := f4
 go_wp2_with (first | (refine wpList_load_want rfl 51 _ rfl (2) rfl tO (wd L19) fO _ rO Tryd.underlying51 rfl (wd_infoW _) ?_) | (refine wpList_load_cell31 rfl 25 _ rfl (g7) 3 rfl _ c73 Tryd.underlying25 ?_) | fail)
 refine (c5.at _).mono ?_
 rintro e wB ⟨rfl, hb⟩
 have f4 : Ord wA := ⟨tO, fO, rO⟩
 clear c73 rO
 replace rp0 := keep hb rp0
 replace rp1 := keep hb rp1
 replace rp2 := keep hb rp2
 replace rl7 := keep hb rl7
 replace rl9 := keep hb rl9
 replace hw := Below.after hw hb
 replace f4 := f4.below hb
 clear hb
 go_wp2_with (first | (refine wpList_store_row rfl 51 _ _ rfl (g9) x_Pq rfl rfl 51 _ rl9 o_Pq.infoW (o_W2.fits o_Pq) o_Pq.2 ?_; refine wpList_stay ?_) | fail)
 unfold WpStay
 try simp only [Act.put]
 replace rp0 := (setRow_other wB (g9) (w.heap.size) x_Pq (by first | assumption | omega)).trans rp0
 replace rp1 := (setRow_other wB (g9) (w.heap.size + 1) x_Pq (by first | assumption | omega)).trans rp1
 replace rp2 := (setRow_other wB (g9) (w.heap.size + 1 + 1) x_Pq (by first | assumption | omega)).trans rp2
 replace rl7 := (setRow_other wB (g9) (g7) x_Pq (by first | assumption | omega)).trans rl7
 replace rl9 := setRow_heap wB (g9) _ x_Pq _ _ rl9
 replace hw := below_setRow hw (show w.heap.size ≤ g9 by first | assumption | omega) x_Pq
 replace f4 := f4.setRow (show 2 < g9 by first | assumption | omega) x_Pq
 generalize wB.setRow (g9) x_Pq = wC at *
 go_wp2_with (first | (refine wpList_load_want rfl 53 _ rfl (w.heap.size) rfl 53 x_r (0, 0) _ rp0 Tryd.underlying53 rfl o_r.infoS ?_) | (refine wpList_load_want rfl 53 _ rfl (w.heap.size + 1) rfl 53 x_a (0, 0) _ rp1 Tryd.underlying53 rfl o_a.infoS ?_) | (refine wpList_load_want rfl 53 _ rfl (w.heap.size + 1 + 1) rfl 53 #[.int .u64 0, .int .u64 0, .int .u64 0, .int .u64 0] (0, 0) _ rp2 Tryd.underlying53 rfl (by kernel_rfl) ?_) | (refine wpList_load_want rfl 51 _ rfl (g7) rfl 51 x_W (0, 0) _ rl7 Tryd.underlying51 rfl o_W.infoW ?_) | (refine wpList_load_want rfl 51 _ rfl (g9) rfl 51 x_Pq (0, 0) _ rl9 Tryd.underlying51 rfl o_Pq.infoW ?_) | (refine wpList_load_part rfl 51 _ rfl (w.heap.size) 0 rfl 53 x_r (0, 0) x_r _ rp0 o_r.part Tryd.underlying51 rfl o_r.infoW ?_) | (refine wpList_load_part rfl 51 _ rfl (w.heap.size + 1) 0 rfl 53 x_a (0, 0) x_a _ rp1 o_a.part Tryd.underlying51 rfl o_a.infoW ?_) | fail)
 refine (c6.at _).mono ?_
 rintro e wD ⟨rfl, hb⟩
 replace rp0 := keep hb rp0
 replace rp1 := keep hb rp1
 replace rp2 := keep hb rp2
 replace rl7 := keep hb rl7
 replace rl9 := keep hb rl9
 replace hw := Below.after hw hb
 replace f4 := f4.below hb
 clear hb
 go_wp2_with (fail)
 refine (c7.at f4).mono ?_
 rintro e wE ⟨rfl, hb⟩
 replace rp0 := keep hb rp0
 replace rp1 := keep hb rp1
 replace rp2 := keep hb rp2
 replace rl7 := keep hb rl7
 replace rl9 := keep hb rl9
 replace hw := Below.after hw hb
 replace f4 := f4.below hb
 clear hb
 go_wp2_with (first | (refine wpList_store_row rfl 53 _ _ rfl (w.heap.size + 1 + 1) x_R rfl rfl 53 _ rp2 o_R.infoS o_R.fit o_R.2 ?_) | fail)
 exact bodyPost_ret (v := .agg x_R) (results_cell_row Tryd.results86 _ _ (w.heap.size + 1 + 1) _ x_R _ _ rfl (setRow_heap _ _ _ _ _ _ rp2) Tryd.underlying53 rfl o_R.infoS) rfl ⟨rfl, below_setRow hw (by omega) _⟩
end Go.Proofs.YtdcpcdkbhgkmlaaDoor
namespace Go.Proofs.YtdcpcdkbhgkmlaaDoor
set_option maxRecDepth 100000
open Go.RowKit Go.Sort
attribute [local go_sem] setCell_drewN alloc_drewN
end Go.Proofs.YtdcpcdkbhgkmlaaDoor

