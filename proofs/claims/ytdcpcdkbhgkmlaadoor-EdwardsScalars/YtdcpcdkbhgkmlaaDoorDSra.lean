import Derived.Test.YtdcpcdkbhgkmlaaDoorDDsj
import Derived.Test.YtdcpcdkbhgkmlaaDoorProg
import Derived.WalkKit
import Derived.WalkSpells
import Derived.WalkLawsBesides
import Derived.Lib.QuietBelow
import Derived.BigQuiet
import Derived.Deep.Cut
import Derived.Deep.CutRange
import Derived.Test.YtdcpcdkbhgkmlaaDoorDOpen
import Derived.Test.YtdcpcdkbhgkmlaaDoorDEa
import Derived.Test.YtdcpcdkbhgkmlaaDoorDGb
import Derived.Test.YtdcpcdkbhgkmlaaDoorDDsc
namespace Go.Proofs.YtdcpcdkbhgkmlaaDoor
set_option maxRecDepth 100000
open Go Go.RowKit
/-! The document's numbers modulo the order: digits of sums and differences. -/
def dgt (A : Int) (k : Nat) : Int := A / 65536 ^ k % 65536
theorem dgt_bd (A : Int) (k : Nat) : 0 ≤ dgt A k ∧ dgt A k < 65536 := by unfold dgt; omega
theorem dp_pos (k : Nat) : (0 : Int) < 65536 ^ k := Int.pow_pos (by decide)
def dmx (M A : Int) (k : Nat) : Array Value := ((List.range 16).map fun i => Value.int .u32 (if i < k then dgt M i else dgt A i)).toArray
theorem dmx_size (M A : Int) (k : Nat) : (dmx M A k).size = 16 := rfl
theorem dmx_cell (M A : Int) (k i : Nat) (h : i < 16) : (dmx M A k)[i]? = some (.int .u32 (if i < k then dgt M i else dgt A i)) := by
 unfold dmx
 rw [List.getElem?_toArray, List.getElem?_map, List.getElem?_range h]
 rfl
theorem dmx_at (M A : Int) (k : Nat) (h : k < 16) : (dmx M A k)[k]? = some (.int .u32 (dgt A k)) := by
 rw [dmx_cell M A k k h, if_neg (Nat.lt_irrefl k)]
theorem dmx_set (M A : Int) (k : Nat) (h : k < 16) : (dmx M A k).setIfInBounds k (.int .u32 (dgt M k)) = dmx M A (k + 1) := by
 apply Array.ext'
 apply List.ext_getElem?
 intro i
 rw [Array.toList_setIfInBounds, List.getElem?_set]
 have e1 : (dmx M A k).toList.length = 16 := rfl
 by_cases hi : i < 16
 ·rw [show (dmx M A (k + 1)).toList[i]? = (dmx M A (k + 1))[i]? by simp, dmx_cell _ _ _ _ hi]
  by_cases hk : k = i
  ·subst hk
   rw [if_pos rfl, if_pos (by rw [e1]; exact h), if_pos (by omega)]
  ·rw [if_neg hk, show (dmx M A k).toList[i]? = (dmx M A k)[i]? by simp, dmx_cell _ _ _ _ hi]
   by_cases hlt : i < k
   ·rw [if_pos hlt, if_pos (by omega)]
   ·rw [if_neg hlt, if_neg (by omega)]
 ·have e2 : (dmx M A (k + 1)).toList.length = 16 := rfl
  rw [if_neg (by omega), List.getElem?_eq_none (by omega), List.getElem?_eq_none (by omega)]
theorem emod_two (A P : Int) (_ : 0 < P) : A % (P * 65536) = P * (A / P % 65536) + A % P := by
 have h1 := Int.mul_ediv_add_emod A P
 have h2 := Int.mul_ediv_add_emod (A / P) 65536
 have h3 := Int.mul_ediv_add_emod A (P * 65536)
 rw [← Int.ediv_ediv_of_nonneg (by omega)] at h3
 generalize A / P / 65536 = q at *
 generalize A / P % 65536 = r at *
 generalize A % P = s at *
 generalize A % (P * 65536) = t at *
 rw [← h2] at h1
 grind
/-! Sums: the carry. -/
def car (A B : Int) (k : Nat) : Int := (A % 65536 ^ k + B % 65536 ^ k) / 65536 ^ k
theorem car_bd (A B : Int) (k : Nat) : 0 ≤ car A B k ∧ car A B k < 2 := by
 have hp := dp_pos k
 have a0 := Int.emod_nonneg A (Int.ne_of_gt hp)
 have a1 := Int.emod_lt_of_pos A hp
 have b0 := Int.emod_nonneg B (Int.ne_of_gt hp)
 have b1 := Int.emod_lt_of_pos B hp
 unfold car
 exact ⟨Int.ediv_nonneg (by omega) (by omega), Int.ediv_lt_of_lt_mul hp (by omega)⟩
theorem car_0 (A B : Int) : car A B 0 = 0 := by unfold car; omega
theorem add_div (A B P : Int) (hP : 0 < P) : (A + B) / P = A / P + B / P + (A % P + B % P) / P := by
 have h1 := Int.mul_ediv_add_emod A P
 have h2 := Int.mul_ediv_add_emod B P
 have e : A + B = (A % P + B % P) + P * (A / P + B / P) := by rw [Int.mul_add]; omega
 rw [e, Int.add_mul_ediv_left _ _ (Int.ne_of_gt hP)]
 have q1 : ((A % P + B % P) + P * (A / P + B / P)) = A + B := e.symm
 omega
theorem add_dg (A B : Int) (k : Nat) : (dgt A k + dgt B k + car A B k) % 65536 = dgt (A + B) k ∧ (dgt A k + dgt B k + car A B k) / 65536 = car A B (k + 1) := by
 have hp := dp_pos k
 constructor
 ·unfold dgt
  rw [add_div A B _ hp]
  unfold car
  omega
 ·unfold car
  rw [Int.pow_succ, emod_two A _ hp, emod_two B _ hp]
  rw [show 65536 ^ k * (A / 65536 ^ k % 65536) + A % 65536 ^ k + (65536 ^ k * (B / 65536 ^ k % 65536) + B % 65536 ^ k) = (A % 65536 ^ k + B % 65536 ^ k) + 65536 ^ k * (A / 65536 ^ k % 65536 + B / 65536 ^ k % 65536) by rw [Int.mul_add]; omega]
  rw [← Int.ediv_ediv_of_nonneg (by omega), Int.add_mul_ediv_left _ _ (Int.ne_of_gt hp)]
  unfold dgt
  congr 1
  omega
/-! Differences: the borrow. -/
def bor (A B : Int) (k : Nat) : Int := -((A % 65536 ^ k - B % 65536 ^ k) / 65536 ^ k)
theorem bor_bd (A B : Int) (k : Nat) : 0 ≤ bor A B k ∧ bor A B k < 2 := by
 have hp := dp_pos k
 have a0 := Int.emod_nonneg A (Int.ne_of_gt hp)
 have a1 := Int.emod_lt_of_pos A hp
 have b0 := Int.emod_nonneg B (Int.ne_of_gt hp)
 have b1 := Int.emod_lt_of_pos B hp
 have h1 : (A % 65536 ^ k - B % 65536 ^ k) / 65536 ^ k < 1 := Int.ediv_lt_of_lt_mul hp (by omega)
 have h2 : -1 ≤ (A % 65536 ^ k - B % 65536 ^ k) / 65536 ^ k := (Int.le_ediv_iff_mul_le hp).2 (by omega)
 unfold bor
 omega
theorem bor_0 (A B : Int) : bor A B 0 = 0 := by unfold bor; omega
theorem sub_div (A B P : Int) (hP : 0 < P) : (A - B) / P = A / P - B / P + (A % P - B % P) / P := by
 have h1 := Int.mul_ediv_add_emod A P
 have h2 := Int.mul_ediv_add_emod B P
 have e : A - B = (A % P - B % P) + P * (A / P - B / P) := by rw [Int.mul_sub]; omega
 rw [e, Int.add_mul_ediv_left _ _ (Int.ne_of_gt hP)]
 omega
theorem sub_dg (A B : Int) (k : Nat) : (dgt A k + 65536 - dgt B k - bor A B k) % 65536 = dgt (A - B) k ∧ 1 - (dgt A k + 65536 - dgt B k - bor A B k) / 65536 = bor A B (k + 1) := by
 have hp := dp_pos k
 constructor
 ·unfold dgt
  rw [sub_div A B _ hp]
  unfold bor
  omega
 ·unfold bor
  rw [Int.pow_succ, emod_two A _ hp, emod_two B _ hp]
  rw [show 65536 ^ k * (A / 65536 ^ k % 65536) + A % 65536 ^ k - (65536 ^ k * (B / 65536 ^ k % 65536) + B % 65536 ^ k) = (A % 65536 ^ k - B % 65536 ^ k) + 65536 ^ k * (A / 65536 ^ k % 65536 - B / 65536 ^ k % 65536) by rw [Int.mul_sub]; omega]
  rw [← Int.ediv_ediv_of_nonneg (by omega), Int.add_mul_ediv_left _ _ (Int.ne_of_gt hp)]
  unfold dgt
  omega
/-! Which of two is less. -/
theorem dg_next (A : Int) (k : Nat) : A / 65536 ^ (k + 1) = A / 65536 ^ k / 65536 := by
 rw [Int.pow_succ, Int.ediv_ediv_of_nonneg (Int.le_of_lt (dp_pos k))]
theorem dg_step {A B : Int} {k : Nat} (h : A / 65536 ^ (k + 1) = B / 65536 ^ (k + 1)) (hd : dgt A k = dgt B k) : A / 65536 ^ k = B / 65536 ^ k := by
 rw [dg_next, dg_next] at h
 unfold dgt at hd
 omega
theorem dg_dec {A B : Int} {k : Nat} (h : A / 65536 ^ (k + 1) = B / 65536 ^ (k + 1)) (hd : dgt A k ≠ dgt B k) : decide (dgt A k < dgt B k) = decide (A < B) := by
 have hp := dp_pos k
 rw [dg_next, dg_next] at h
 unfold dgt at *
 rw [decide_eq_decide]
 constructor
 ·intro q
  rcases Int.lt_or_le A B with r | r
  ·exact r
  ·have := Int.ediv_le_ediv hp r
   omega
 ·intro q
  have := Int.ediv_le_ediv hp (Int.le_of_lt q)
  omega
theorem dg_top {A : Int} (h : 0 ≤ A ∧ A < 65536 ^ 16) : A / 65536 ^ 16 = 0 := Int.ediv_eq_zero_of_lt h.1 h.2
theorem dgt_zero {A : Int} (h : 0 ≤ A ∧ A < 65536 ^ 16) (hz : ∀ k, k < 16 → dgt A k = 0) : A = 0 := by
 have : ∀ j, j ≤ 16 → A / 65536 ^ (16 - j) = 0 := by
  intro j
  induction j with
  | zero => intro _; exact dg_top h
  | succ j ih =>
   intro hj
   have e := ih (by omega)
   rw [show 16 - j = (16 - (j + 1)) + 1 by omega] at e
   have h0 : (0 : Int) / 65536 ^ (16 - (j + 1)) = 0 := Int.zero_ediv _
   have := dg_step (A := A) (B := 0) (k := 16 - (j + 1)) (by rw [e, Int.zero_ediv]) (by rw [hz _ (by omega)]; unfold dgt; rw [Int.zero_ediv]; rfl)
   rw [this, Int.zero_ediv]
 have := this 16 (Nat.le_refl _)
 simpa using this
end Go.Proofs.YtdcpcdkbhgkmlaaDoor
namespace Go.Proofs.YtdcpcdkbhgkmlaaDoor
set_option maxRecDepth 100000
open Go Go.RowKit Go.Sort
attribute [local go_sem] setCell_drewN alloc_drewN
theorem z16 : (#[.int .u32 0, .int .u32 0, .int .u32 0, .int .u32 0, .int .u32 0, .int .u32 0, .int .u32 0, .int .u32 0, .int .u32 0, .int .u32 0, .int .u32 0, .int .u32 0, .int .u32 0, .int .u32 0, .int .u32 0, .int .u32 0] : Array Value) = d16 0 := by kernel_rfl
def in256 (A : Int) : Prop := 0 ≤ A ∧ A < 65536 ^ 16
theorem d16_at (A : Int) (k : Nat) (h : k < 16) : (d16 A)[k]? = some (.int .u32 (dgt A k)) := d16_cell A k h
theorem L_in {A : Int} (h : 0 ≤ A ∧ A < L19) : in256 A := ⟨h.1, by have := h.2; unfold L19 at this; omega⟩
set_option maxRecDepth 100000 in
set_option maxHeartbeats 8000000 in
theorem r_below {A B : Int} (hA : in256 A) (hB : in256 B) : Gives 88 #[.agg (d16 A), .agg (d16 B)] (.bool (decide (A < B))) := by
 intro w
 obtain ⟨R, hR⟩ : ∃ R, decide (A < B) = R := ⟨_, rfl⟩
 rw [hR]
 replace hR := hide hR
 have rp0 := hp2_0 w (.cells (d16 A) 56) (.cells (d16 B) 56)
 have rp1 := hp2_1 w (.cells (d16 A) 56) (.cells (d16 B) 56)
 have hw : Below w.heap.size w ((w.alloc (.cells (d16 A) 56)).alloc (.cells (d16 B) 56)) := ((Below.refl _ _).alloc (Nat.le_refl _) _).alloc (by simp) _
 go_enter Tryd.func88, Tryd.ntmps88
 go_wp2_with (fail)
 generalize (w.alloc (.cells (d16 A) 56)).alloc (.cells (d16 B) 56) = w0 at *
 go_loopw [5] (fun i wr => ∃ j : Nat, j ≤ 16 ∧ i = .int .i64 ((j : Int) - 1) ∧ A / 65536 ^ j = B / 65536 ^ j ∧ wr.heap[w.heap.size]? = some (.cells (d16 A) 56 (0, 0)) ∧ wr.heap[w.heap.size + 1]? = some (.cells (d16 B) 56 (0, 0)) ∧ Below w.heap.size w wr) (fun i _ => (intOf i + 1).toNat)
 case atStart => exact ⟨16, by omega, by go_num, by rw [dg_top hA, dg_top hB], rp0, rp1, hw⟩
 case round =>
  clear rp0 rp1 hw
  obtain ⟨j, hj, rfl, he, rp0, rp1, hw⟩ := hrel
  cases j with
  | zero =>
   have hz : decide (A < B) = false := by
    rw [decide_eq_false_iff_not]
    simp at he
    omega
   replace hz := hide hz
   clear rp0 rp1 he
   go_wp2_with (fail)
   go_ret
   exact ⟨by show Ending.returned (.bool false) = _; rw [← hR.out, hz.out], hw⟩
  | succ j =>
   have hi : ((j + 1 : Nat) : Int) - 1 = (j : Int) := by omega
   rw [hi]
   have hj16 : j < 16 := by omega
   have ca : wr.cell? ⟨w.heap.size, j, none⟩ = some (.int .u32 (dgt A j)) := (cell_of_row wr (w.heap.size) j _ _ _ rp0).trans (d16_at _ _ hj16)
   have cb : wr.cell? ⟨w.heap.size + 1, j, none⟩ = some (.int .u32 (dgt B j)) := (cell_of_row wr (w.heap.size + 1) j _ _ _ rp1).trans (d16_at _ _ hj16)
   have ba := dgt_bd A j
   have bb := dgt_bd B j
   have st := hide (dg_step (A := A) (B := B) (k := j) he)
   have dc := hide (dg_dec (A := A) (B := B) (k := j) he)
   have hji : 0 ≤ (j : Int) ∧ (j : Int) < 16 := by omega
   have hd : decide ((j : Int) ≥ 0) = true := by simp
   generalize dgt A j = x at *
   generalize dgt B j = y at *
   clear he
   by_cases hxy : x = y
   ·have hq : (x == y) = true := by simpa using hxy
    subst hxy
    have s1 := hide (st.out rfl)
    clear st dc
    go_wp2_with (fail)
    go_quiet (fail)
    go_wp2_with (fail)
    go_roundw
    case rel => exact ⟨j, by omega, by go_num, s1.out, by rw [World.heap_drewN]; exact rp0, by rw [World.heap_drewN]; exact rp1, below_drN hw _⟩
    case measure => simp [intOf]
   ·have hq : (x == y) = false := by simpa using hxy
    have s1 := hide (dc.out hxy)
    clear st dc
    go_wp2_with (fail)
    go_quiet (fail)
    go_wp2_with (fail)
    go_quiet (fail)
    go_wp2_with (fail)
    go_ret
    exact ⟨by show Ending.returned (.bool (decide (x < y))) = _; rw [← hR.out, ← s1.out], below_drN (below_drN hw _) _⟩
set_option maxRecDepth 100000 in
set_option maxHeartbeats 8000000 in
theorem r_sIsZero {A : Int} (hA : in256 A) : Gives 56 #[.agg (d16 A)] (.bool (decide (A = 0))) := by
 intro w
 obtain ⟨R, hR⟩ : ∃ R, decide (A = 0) = R := ⟨_, rfl⟩
 rw [hR]
 replace hR := hide hR
 have rp0 := hp1_0 w (.cells (d16 A) 58)
 have hw : Below w.heap.size w (w.alloc (.cells (d16 A) 58)) := (Below.refl _ _).alloc (Nat.le_refl _) _
 go_enter Tryd.func56, Tryd.ntmps56
 go_wp2_with (fail)
 generalize w.alloc (.cells (d16 A) 58) = w0 at *
 go_loopw [3] (fun i wr => ∃ k : Nat, k ≤ 16 ∧ i = .int .i64 k ∧ (∀ m, m < k → dgt A m = 0) ∧ wr.heap[w.heap.size]? = some (.cells (d16 A) 58 (0, 0)) ∧ Below w.heap.size w wr) (fun i _ => 16 - (intOf i).toNat)
 case atStart => exact ⟨0, by omega, rfl, fun m h => absurd h (Nat.not_lt_zero _), rp0, hw⟩
 case round =>
  clear rp0 hw
  obtain ⟨k, hk, rfl, he, rp0, hw⟩ := hrel
  by_cases hlt : k < 16
  ·have hd : decide ((k : Int) < 16) = true := by simp; omega
   have ca : wr.cell? ⟨w.heap.size, k, none⟩ = some (.int .u32 (dgt A k)) := (cell_of_row wr (w.heap.size) k _ _ _ rp0).trans (d16_at _ _ hlt)
   have hki : 0 ≤ (k : Int) ∧ (k : Int) < 16 := by omega
   have h0 := hide (fun (e : dgt A k = 0) (m : Nat) (hm : m < k + 1) => (by rcases Nat.lt_or_ge m k with q | q; exact he m q; rw [show m = k by omega]; exact e : dgt A m = 0))
   have hn := hide (fun (e : dgt A k ≠ 0) => (by rw [decide_eq_false_iff_not]; intro q; rw [q] at e; exact e (by unfold dgt; rw [Int.zero_ediv]; rfl) : decide (A = 0) = false))
   have ba := dgt_bd A k
   generalize dgt A k = x at *
   clear he
   by_cases hx : x = 0
   ·have h1 := hide (h0.out hx)
    subst hx
    clear h0 hn
    go_wp2_with (fail)
    go_roundw
    case rel => exact ⟨k + 1, by omega, by go_num, h1.out, rp0, hw⟩
    case measure => simp [intOf]; omega
   ·have h1 := hide (hn.out hx)
    have hq : (x == 0) = false := by simpa using hx
    clear h0 hn
    go_wp2_with (fail)
    go_ret
    exact ⟨by show Ending.returned (.bool false) = _; rw [← hR.out, h1.out], hw⟩
  ·obtain rfl : k = 16 := by omega
   have hz : decide (A = 0) = true := by rw [decide_eq_true_eq]; exact dgt_zero hA he
   have hd : decide (((16 : Nat) : Int) < 16) = false := by decide
   replace hz := hide hz
   clear he rp0
   go_wp2_with (fail)
   go_ret
   exact ⟨by show Ending.returned (.bool true) = _; rw [← hR.out, hz.out], hw⟩
theorem one_set : (d16 0).setIfInBounds 0 (.int .u32 1) = d16 1 := by kernel_rfl
set_option maxRecDepth 100000 in
set_option maxHeartbeats 8000000 in
theorem r_sone : Gives 52 #[] (.agg (d16 1)) := by
 intro w
 have rp0 := hp1_0 w (.cells (d16 0) 58)
 have hw : Below w.heap.size w (w.alloc (.cells (d16 0) 58)) := (Below.refl _ _).alloc (Nat.le_refl _) _
 go_enter Tryd.func52, Tryd.ntmps52
 iterate 6 go_step
 rw [z16]
 have sz : (w.alloc (.cells (d16 0) 58)).heap.size = w.heap.size + 1 := by simp
 generalize w.alloc (.cells (d16 0) 58) = wz at *
 iterate 7 go_step
 rw [z16]
 have rp1 := hp1_0 wz (.cells (d16 0) 58)
 have hb : Below wz.heap.size wz (wz.alloc (.cells (d16 0) 58)) := (Below.refl _ _).alloc (Nat.le_refl _) _
 replace rp0 := keep hb rp0
 replace hw := Below.after hw hb
 rw [sz] at rp1
 clear hb
 generalize wz.alloc (.cells (d16 0) 58) = w0 at *
 go_wp2_with (first | (refine wpList_store_cell31 rfl 55 _ _ rfl (w.heap.size + 1) 0 rfl (.int .u32 1) rfl 58 _ rp1 (by show 0 < 16; decide) (by kernel_rfl) rfl ?_; rw [one_set]; refine wpList_stay ?_) | fail)
 unfold WpStay
 replace rp0 := (setRow_other w0 (w.heap.size + 1) (w.heap.size) (d16 1) (by omega)).trans rp0
 replace rp1 := setRow_heap w0 (w.heap.size + 1) _ (d16 1) _ _ rp1
 replace hw := below_setRow hw (show w.heap.size ≤ w.heap.size + 1 by omega) (d16 1)
 generalize w0.setRow (w.heap.size + 1) (d16 1) = w1 at *
 go_wp2_with (first | (refine wpList_load_want rfl 58 _ rfl (w.heap.size + 1) rfl 58 (d16 1) (0, 0) _ rp1 Tryd.underlying58 rfl (d16_infoR _) ?_) | (refine wpList_store_row rfl 58 _ _ rfl (w.heap.size) (d16 1) rfl rfl 58 _ rp0 (d16_infoR _) rfl (d16_one _) ?_) | fail)
 exact bodyPost_ret (v := .agg (d16 1)) (results_cell_row Tryd.results52 _ _ (w.heap.size) _ (d16 1) _ _ rfl (setRow_heap _ _ _ _ _ _ rp0) Tryd.underlying58 rfl (d16_infoR _)) rfl ⟨rfl, below_setRow hw (Nat.le_refl _) _⟩
set_option maxRecDepth 100000 in
set_option maxHeartbeats 8000000 in
theorem r_once {A : Int} (hA : 0 ≤ A ∧ A < L19 + L19) : Gives 54 #[.agg (d16 A)] (.agg (d16 (A % L19))) := by
 intro w
 obtain ⟨R, hR⟩ : ∃ R, A % L19 = R := ⟨_, rfl⟩
 rw [hR]
 replace hR := hide hR
 have cB := r_below (A := A) (B := L19) ⟨hA.1, by have := hA.2; unfold L19 at this; omega⟩ ⟨by decide, by decide⟩
 have rp0 := hp2_0 w (.cells (d16 A) 56) (.cells (d16 0) 58)
 have rp1 := hp2_1 w (.cells (d16 A) 56) (.cells (d16 0) 58)
 have hw : Below w.heap.size w ((w.alloc (.cells (d16 A) 56)).alloc (.cells (d16 0) 58)) := (((Below.refl _ _).alloc (Nat.le_refl _) _).alloc (by simp) _)
 go_enter Tryd.func54, Tryd.ntmps54
 iterate 9 go_step
 try rw [z16]
 generalize ((w.alloc (.cells (d16 A) 56)).alloc (.cells (d16 0) 58)) = w0 at *
 go_wp2_with (first | (refine wpList_load_want rfl 56 _ rfl (w.heap.size) rfl 56 (d16 A) (0, 0) _ rp0 Tryd.underlying56 rfl (d16_infoD _) ?_) | (refine wpList_load_want rfl 58 _ rfl (w.heap.size + 1) rfl 58 (d16 0) (0, 0) _ rp1 Tryd.underlying58 rfl (d16_infoR _) ?_) | fail)
 refine (r_order.at _).mono ?_
 rintro e_ w1 ⟨rfl, hb⟩
 replace rp0 := keep hb rp0
 replace rp1 := keep hb rp1
 replace hw := Below.after hw hb
 clear hb
 go_wp2_with (first | (refine wpList_store_row rfl 56 _ _ rfl (w1.heap.size) (d16 L19) rfl rfl 56 (d16 0) (hp1_0 w1 _) (d16_infoD _) ((d16_size _).trans (d16_size _).symm) (d16_one _) ?_; rw [setRow_alloc_new _ _ _ _ _ _ (by simp)]; refine wpList_stay ?_) | fail)
 unfold WpStay
 try simp only [Act.put]
 have rl3 : (w1.alloc (.cells (d16 L19) 56)).heap[w1.heap.size]? = some (.cells (d16 L19) 56 (0, 0)) := hp1_0 w1 _
 have hb : Below w1.heap.size w1 (w1.alloc (.cells (d16 L19) 56)) := ((Below.refl _ _).alloc (Nat.le_refl _) _)
 generalize (w1.alloc (.cells (d16 L19) 56)) = w2 at *
 have lt_g3_0 := lt_of_row rp0
 have lt_g3_1 := lt_of_row rp1
 have sz_g3 := hw.size
 replace rp0 := keep hb rp0
 replace rp1 := keep hb rp1
 replace hw := Below.after hw hb
 clear hb
 generalize w1.heap.size = g3 at *
 clear w1
 go_wp2_with (first | (refine wpList_load_want rfl 56 _ rfl (w.heap.size) rfl 56 (d16 A) (0, 0) _ rp0 Tryd.underlying56 rfl (d16_infoD _) ?_) | (refine wpList_load_want rfl 58 _ rfl (w.heap.size + 1) rfl 58 (d16 0) (0, 0) _ rp1 Tryd.underlying58 rfl (d16_infoR _) ?_) | (refine wpList_load_want rfl 56 _ rfl (g3) rfl 56 (d16 L19) (0, 0) _ rl3 Tryd.underlying56 rfl (d16_infoD _) ?_) | fail)
 refine (cB.at _).mono ?_
 rintro e_ w3 ⟨rfl, hb⟩
 replace rp0 := keep hb rp0
 replace rp1 := keep hb rp1
 replace rl3 := keep hb rl3
 replace hw := Below.after hw hb
 clear hb
 by_cases hlt : A < L19
 ·have hd : decide (A < L19) = true := decide_eq_true hlt
  have hm : A = R := by rw [← hR.out]; exact (Int.emod_eq_of_lt hA.1 hlt).symm
  subst hm
  clear hR
  go_wp2_with (first | (refine wpList_load_want rfl 56 _ rfl (w.heap.size) rfl 56 (d16 A) (0, 0) _ rp0 Tryd.underlying56 rfl (d16_infoD _) ?_) | (refine wpList_load_want rfl 58 _ rfl (w.heap.size + 1) rfl 58 (d16 0) (0, 0) _ rp1 Tryd.underlying58 rfl (d16_infoR _) ?_) | (refine wpList_load_want rfl 56 _ rfl (g3) rfl 56 (d16 L19) (0, 0) _ rl3 Tryd.underlying56 rfl (d16_infoD _) ?_) | (refine wpList_build_as rfl 58 _ rfl [(0, .agg (d16 A))] rfl (d16 A) (by kernel_rfl) ?_) | (refine wpList_store_row rfl 58 _ _ rfl (w.heap.size + 1) (d16 A) rfl rfl 58 _ rp1 (d16_infoR _) ((d16_size _).trans (d16_size _).symm) (d16_one _) ?_) | fail)
  exact bodyPost_ret (v := .agg (d16 A)) (results_cell_row Tryd.results54 _ _ (w.heap.size + 1) _ (d16 A) _ _ rfl (setRow_heap _ _ _ _ _ _ rp1) Tryd.underlying58 rfl (d16_infoR _)) rfl ⟨rfl, below_setRow hw (by omega) _⟩
 ·have hd : decide (A < L19) = false := decide_eq_false hlt
  have hm : A - L19 = R := by rw [← hR.out, ← Int.sub_emod_right, Int.emod_eq_of_lt (by omega) (by omega)]
  subst hm
  clear hR cB
  go_wp2_with (fail)
  go_loopw [4, 5] (fun c i wr => ∃ k : Nat, k ≤ 16 ∧ i = .int .i64 k ∧ c = .int .u32 (bor A L19 k) ∧ wr.heap[w.heap.size]? = some (.cells (dmx (A - L19) A k) 56 (0, 0)) ∧ wr.heap[w.heap.size + 1]? = some (.cells (d16 0) 58 (0, 0)) ∧ wr.heap[g3]? = some (.cells (d16 L19) 56 (0, 0)) ∧ Below w.heap.size w wr) (fun _ i _ => 16 - (intOf i).toNat)
  case atStart => exact ⟨0, by omega, rfl, by rw [bor_0], rp0, rp1, rl3, hw⟩
  case round =>
   clear rp0 rp1 rl3 hw
   obtain ⟨k, hk, rfl, rfl, r0, r1, r2, hw⟩ := hrel
   by_cases hlt : k < 16
   ·have hd : decide ((k : Int) < 16) = true := by simp; omega
    have hki : 0 ≤ (k : Int) ∧ (k : Int) < 16 := by omega
    have ca : wr.cell? ⟨w.heap.size, k, none⟩ = some (.int .u32 (dgt A k)) := (cell_of_row wr (w.heap.size) k _ _ _ r0).trans (dmx_at _ _ _ hlt)
    have cb : wr.cell? ⟨g3, k, none⟩ = some (.int .u32 (dgt L19 k)) := (cell_of_row wr (g3) k _ _ _ r2).trans (d16_at _ _ hlt)
    have ba := dgt_bd A k
    have bb := dgt_bd L19 k
    have bc := bor_bd A L19 k
    have e1 := sub_dg A L19 k
    have e2 := hide e1.2
    replace e1 := hide e1.1
    have s1 := hide (dmx_set (A - L19) A k hlt)
    generalize dgt A k = x at *
    generalize dgt L19 k = y at *
    generalize bor A L19 k = c at *
    go_wp2_with (fail)
    go_quiet (fail)
    rename_i nq
    have hb : Below wr.heap.size wr (wr.drewN nq) := below_drN (Below.refl _ _) nq
    replace r0 := keep hb r0
    replace r1 := keep hb r1
    replace r2 := keep hb r2
    replace hw := Below.after hw hb
    clear hb ca cb
    generalize wr.drewN nq = wd at *
    go_wp2_with (first | (refine wpList_store_cell31 rfl 55 _ _ rfl (w.heap.size) k rfl (.int .u32 ((x + 65536 - y - c) % 65536)) rfl 56 _ r0 (by rw [dmx_size]; exact hlt) (by kernel_rfl) rfl ?_; rw [e1.out, s1.out]; refine wpList_stay ?_) | fail)
    unfold WpStay
    replace r1 := (setRow_other wd (w.heap.size) (w.heap.size + 1) (dmx (A - L19) A (k + 1)) (by omega)).trans r1
    replace r2 := (setRow_other wd (w.heap.size) (g3) (dmx (A - L19) A (k + 1)) (by omega)).trans r2
    replace r0 := setRow_heap wd (w.heap.size) _ (dmx (A - L19) A (k + 1)) _ _ r0
    replace hw := below_setRow hw (show w.heap.size ≤ w.heap.size by omega) (dmx (A - L19) A (k + 1))
    generalize wd.setRow (w.heap.size) (dmx (A - L19) A (k + 1)) = wn at *
    clear s1 e1
    go_wp2_with (fail)
    go_roundw
    case rel => exact ⟨k + 1, by omega, by go_num, by rw [e2.out], r0, r1, r2, hw⟩
    case measure => simp [intOf]; omega
   ·obtain rfl : k = 16 := by omega
    have hd : decide (((16 : Nat) : Int) < 16) = false := by decide
    replace r0 : wr.heap[w.heap.size]? = some (.cells (d16 (A - L19)) 56 (0, 0)) := r0
    go_wp2_with (first | (refine wpList_load_want rfl 56 _ rfl (w.heap.size) rfl 56 (d16 (A - L19)) (0, 0) _ r0 Tryd.underlying56 rfl (d16_infoD _) ?_) | (refine wpList_load_want rfl 58 _ rfl (w.heap.size + 1) rfl 58 (d16 0) (0, 0) _ r1 Tryd.underlying58 rfl (d16_infoR _) ?_) | (refine wpList_load_want rfl 56 _ rfl (g3) rfl 56 (d16 L19) (0, 0) _ r2 Tryd.underlying56 rfl (d16_infoD _) ?_) | (refine wpList_build_as rfl 58 _ rfl [(0, .agg (d16 (A - L19)))] rfl (d16 (A - L19)) (by kernel_rfl) ?_) | (refine wpList_store_row rfl 58 _ _ rfl (w.heap.size + 1) (d16 (A - L19)) rfl rfl 58 _ r1 (d16_infoR _) ((d16_size _).trans (d16_size _).symm) (d16_one _) ?_) | fail)
    exact bodyPost_ret (v := .agg (d16 (A - L19))) (results_cell_row Tryd.results54 _ _ (w.heap.size + 1) _ (d16 (A - L19)) _ _ rfl (setRow_heap _ _ _ _ _ _ r1) Tryd.underlying58 rfl (d16_infoR _)) rfl ⟨rfl, below_setRow hw (by omega) _⟩
set_option maxRecDepth 100000 in
set_option maxHeartbeats 8000000 in
theorem r_sAdd {A B : Int} (hA : 0 ≤ A ∧ A < L19) (hB : 0 ≤ B ∧ B < L19) : Gives 23 #[.agg (d16 A), .agg (d16 B)] (.agg (d16 ((A + B) % L19))) := by
 intro w
 have cO := r_once (A := A + B) (by omega)
 have rp0 := hp3_0 w (.cells (d16 A) 58) (.cells (d16 B) 58) (.cells (d16 0) 58)
 have rp1 := hp3_1 w (.cells (d16 A) 58) (.cells (d16 B) 58) (.cells (d16 0) 58)
 have rp2 := hp3_2 w (.cells (d16 A) 58) (.cells (d16 B) 58) (.cells (d16 0) 58)
 have hw : Below w.heap.size w (((w.alloc (.cells (d16 A) 58)).alloc (.cells (d16 B) 58)).alloc (.cells (d16 0) 58)) := ((((Below.refl _ _).alloc (Nat.le_refl _) _).alloc (by simp) _).alloc (by simp; omega) _)
 go_enter Tryd.func23, Tryd.ntmps23
 iterate 12 go_step
 try rw [z16]
 generalize (((w.alloc (.cells (d16 A) 58)).alloc (.cells (d16 B) 58)).alloc (.cells (d16 0) 58)) = w0 at *
 go_wp2_with (fail)
 rw [z16]
 have rg5 := hp1_0 w0 (.cells (d16 0) 56)
 have hb : Below w0.heap.size w0 (w0.alloc (.cells (d16 0) 56)) := (Below.refl _ _).alloc (Nat.le_refl _) _
 generalize w0.alloc (.cells (d16 0) 56) = w1 at *
 have lt_g5_0 := lt_of_row rp0
 have lt_g5_1 := lt_of_row rp1
 have lt_g5_2 := lt_of_row rp2
 have sz_g5 := hw.size
 replace rp0 := keep hb rp0
 replace rp1 := keep hb rp1
 replace rp2 := keep hb rp2
 replace hw := Below.after hw hb
 clear hb
 generalize w0.heap.size = g5 at *
 go_loopw [6, 7] (fun c i wr => ∃ k : Nat, k ≤ 16 ∧ i = .int .i64 k ∧ c = .int .u32 (car A B k) ∧ wr.heap[w.heap.size]? = some (.cells (d16 A) 58 (0, 0)) ∧ wr.heap[w.heap.size + 1]? = some (.cells (d16 B) 58 (0, 0)) ∧ wr.heap[w.heap.size + 1 + 1]? = some (.cells (d16 0) 58 (0, 0)) ∧ wr.heap[g5]? = some (.cells (dmx (A + B) 0 k) 56 (0, 0)) ∧ Below w.heap.size w wr) (fun _ i _ => 16 - (intOf i).toNat)
 case atStart => exact ⟨0, by omega, rfl, by rw [car_0], rp0, rp1, rp2, rg5, hw⟩
 case round =>
  clear rp0 rp1 rp2 rg5 hw
  obtain ⟨k, hk, rfl, rfl, r0, r1, r2, r3, hw⟩ := hrel
  by_cases hlt : k < 16
  ·have hd : decide ((k : Int) < 16) = true := by simp; omega
   have hki : 0 ≤ (k : Int) ∧ (k : Int) < 16 := by omega
   have ca : wr.cell? ⟨w.heap.size, k, none⟩ = some (.int .u32 (dgt A k)) := (cell_of_row wr (w.heap.size) k _ _ _ r0).trans (d16_at _ _ hlt)
   have cb : wr.cell? ⟨w.heap.size + 1, k, none⟩ = some (.int .u32 (dgt B k)) := (cell_of_row wr (w.heap.size + 1) k _ _ _ r1).trans (d16_at _ _ hlt)
   have ba := dgt_bd A k
   have bb := dgt_bd B k
   have bc := car_bd A B k
   have e1 := add_dg A B k
   have e2 := hide e1.2
   replace e1 := hide e1.1
   have s1 := hide (dmx_set (A + B) 0 k hlt)
   generalize dgt A k = x at *
   generalize dgt B k = y at *
   generalize car A B k = c at *
   go_wp2_with (fail)
   go_quiet (fail)
   rename_i nq
   have hb : Below wr.heap.size wr (wr.drewN nq) := below_drN (Below.refl _ _) nq
   replace r0 := keep hb r0
   replace r1 := keep hb r1
   replace r2 := keep hb r2
   replace r3 := keep hb r3
   replace hw := Below.after hw hb
   clear hb ca cb
   generalize wr.drewN nq = wd at *
   go_wp2_with (first | (refine wpList_store_cell31 rfl 55 _ _ rfl (g5) k rfl (.int .u32 ((x + y + c) % 65536)) rfl 56 _ r3 (by rw [dmx_size]; exact hlt) (by kernel_rfl) rfl ?_; rw [e1.out, s1.out]; refine wpList_stay ?_) | fail)
   unfold WpStay
   replace r0 := (setRow_other wd (g5) (w.heap.size) (dmx (A + B) 0 (k + 1)) (by omega)).trans r0
   replace r1 := (setRow_other wd (g5) (w.heap.size + 1) (dmx (A + B) 0 (k + 1)) (by omega)).trans r1
   replace r2 := (setRow_other wd (g5) (w.heap.size + 1 + 1) (dmx (A + B) 0 (k + 1)) (by omega)).trans r2
   replace r3 := setRow_heap wd (g5) _ (dmx (A + B) 0 (k + 1)) _ _ r3
   replace hw := below_setRow hw (show w.heap.size ≤ g5 by omega) (dmx (A + B) 0 (k + 1))
   generalize wd.setRow (g5) (dmx (A + B) 0 (k + 1)) = wn at *
   clear s1 e1
   go_wp2_with (fail)
   go_roundw
   case rel => exact ⟨k + 1, by omega, by go_num, by rw [e2.out], r0, r1, r2, r3, hw⟩
   case measure => simp [intOf]; omega
  ·obtain rfl : k = 16 := by omega
   have hd : decide (((16 : Nat) : Int) < 16) = false := by decide
   replace r3 : wr.heap[g5]? = some (.cells (d16 (A + B)) 56 (0, 0)) := r3
   go_wp2_with (first | (refine wpList_load_want rfl 58 _ rfl (w.heap.size) rfl 58 (d16 A) (0, 0) _ r0 Tryd.underlying58 rfl (d16_infoR _) ?_) | (refine wpList_load_want rfl 58 _ rfl (w.heap.size + 1) rfl 58 (d16 B) (0, 0) _ r1 Tryd.underlying58 rfl (d16_infoR _) ?_) | (refine wpList_load_want rfl 58 _ rfl (w.heap.size + 1 + 1) rfl 58 (d16 0) (0, 0) _ r2 Tryd.underlying58 rfl (d16_infoR _) ?_) | (refine wpList_load_want rfl 56 _ rfl (g5) rfl 56 (d16 (A + B)) (0, 0) _ r3 Tryd.underlying56 rfl (d16_infoD _) ?_) | fail)
   refine (cO.at _).mono ?_
   rintro e_ w9 ⟨rfl, hb⟩
   replace r0 := keep hb r0
   replace r1 := keep hb r1
   replace r2 := keep hb r2
   replace r3 := keep hb r3
   replace hw := Below.after hw hb
   clear hb
   go_wp2_with (first | (refine wpList_load_want rfl 58 _ rfl (w.heap.size) rfl 58 (d16 A) (0, 0) _ r0 Tryd.underlying58 rfl (d16_infoR _) ?_) | (refine wpList_load_want rfl 58 _ rfl (w.heap.size + 1) rfl 58 (d16 B) (0, 0) _ r1 Tryd.underlying58 rfl (d16_infoR _) ?_) | (refine wpList_load_want rfl 58 _ rfl (w.heap.size + 1 + 1) rfl 58 (d16 0) (0, 0) _ r2 Tryd.underlying58 rfl (d16_infoR _) ?_) | (refine wpList_load_want rfl 56 _ rfl (g5) rfl 56 (d16 (A + B)) (0, 0) _ r3 Tryd.underlying56 rfl (d16_infoD _) ?_) | (refine wpList_store_row rfl 58 _ _ rfl (w.heap.size + 1 + 1) (d16 ((A + B) % L19)) rfl rfl 58 _ r2 (d16_infoR _) ((d16_size _).trans (d16_size _).symm) (d16_one _) ?_) | fail)
   exact bodyPost_ret (v := .agg (d16 ((A + B) % L19))) (results_cell_row Tryd.results23 _ _ (w.heap.size + 1 + 1) _ (d16 ((A + B) % L19)) _ _ rfl (setRow_heap _ _ _ _ _ _ r2) Tryd.underlying58 rfl (d16_infoR _)) rfl ⟨rfl, below_setRow hw (by omega) _⟩
set_option maxRecDepth 100000 in
set_option maxHeartbeats 8000000 in
theorem r_sNeg {A : Int} (hA : 0 ≤ A ∧ A < L19) : Gives 29 #[.agg (d16 A)] (.agg (d16 (-A % L19))) := by
 intro w
 obtain ⟨R, hR⟩ : ∃ R, -A % L19 = R := ⟨_, rfl⟩
 rw [hR]
 replace hR := hide hR
 have cZ := r_sIsZero (L_in hA)
 have rp0 := hp2_0 w (.cells (d16 A) 58) (.cells (d16 0) 58)
 have rp1 := hp2_1 w (.cells (d16 A) 58) (.cells (d16 0) 58)
 have hw : Below w.heap.size w ((w.alloc (.cells (d16 A) 58)).alloc (.cells (d16 0) 58)) := (((Below.refl _ _).alloc (Nat.le_refl _) _).alloc (by simp) _)
 go_enter Tryd.func29, Tryd.ntmps29
 iterate 9 go_step
 try rw [z16]
 generalize ((w.alloc (.cells (d16 A) 58)).alloc (.cells (d16 0) 58)) = w0 at *
 go_wp2_with (first | (refine wpList_load_want rfl 58 _ rfl (w.heap.size) rfl 58 (d16 A) (0, 0) _ rp0 Tryd.underlying58 rfl (d16_infoR _) ?_) | (refine wpList_load_want rfl 58 _ rfl (w.heap.size + 1) rfl 58 (d16 0) (0, 0) _ rp1 Tryd.underlying58 rfl (d16_infoR _) ?_) | fail)
 refine (cZ.at _).mono ?_
 rintro e_ w1 ⟨rfl, hb⟩
 replace rp0 := keep hb rp0
 replace rp1 := keep hb rp1
 replace hw := Below.after hw hb
 clear hb
 by_cases hz : A = 0
 ·have hd : decide (A = 0) = true := decide_eq_true hz
  have hm : A = R := by rw [← hR.out, hz]; rfl
  subst hm
  replace hz := hide hz
  clear cZ hR
  go_wp2_with (first | (refine wpList_load_want rfl 58 _ rfl (w.heap.size) rfl 58 (d16 A) (0, 0) _ rp0 Tryd.underlying58 rfl (d16_infoR _) ?_) | (refine wpList_load_want rfl 58 _ rfl (w.heap.size + 1) rfl 58 (d16 0) (0, 0) _ rp1 Tryd.underlying58 rfl (d16_infoR _) ?_) | (refine wpList_store_row rfl 58 _ _ rfl (w.heap.size + 1) (d16 A) rfl rfl 58 _ rp1 (d16_infoR _) ((d16_size _).trans (d16_size _).symm) (d16_one _) ?_) | fail)
  exact bodyPost_ret (v := .agg (d16 A)) (results_cell_row Tryd.results29 _ _ (w.heap.size + 1) _ (d16 A) _ _ rfl (setRow_heap _ _ _ _ _ _ rp1) Tryd.underlying58 rfl (d16_infoR _)) rfl ⟨rfl, below_setRow hw (by omega) _⟩
 ·have hd : decide (A = 0) = false := decide_eq_false hz
  have hm : L19 - A = R := by rw [← hR.out, ← Int.add_emod_right, Int.emod_eq_of_lt (by omega) (by omega)]; omega
  subst hm
  clear cZ hR
  go_wp2_with (first | (refine wpList_load_want rfl 58 _ rfl (w.heap.size) rfl 58 (d16 A) (0, 0) _ rp0 Tryd.underlying58 rfl (d16_infoR _) ?_) | (refine wpList_load_want rfl 58 _ rfl (w.heap.size + 1) rfl 58 (d16 0) (0, 0) _ rp1 Tryd.underlying58 rfl (d16_infoR _) ?_) | fail)
  refine (r_order.at _).mono ?_
  rintro e_ w2 ⟨rfl, hb⟩
  replace rp0 := keep hb rp0
  replace rp1 := keep hb rp1
  replace hw := Below.after hw hb
  clear hb
  go_wp2_with (first | (refine wpList_store_row rfl 56 _ _ rfl (w2.heap.size) (d16 L19) rfl rfl 56 (d16 0) (hp1_0 w2 _) (d16_infoD _) ((d16_size _).trans (d16_size _).symm) (d16_one _) ?_; rw [setRow_alloc_new _ _ _ _ _ _ (by simp)]; refine wpList_stay ?_) | fail)
  unfold WpStay
  try simp only [Act.put]
  have rl3 : (w2.alloc (.cells (d16 L19) 56)).heap[w2.heap.size]? = some (.cells (d16 L19) 56 (0, 0)) := hp1_0 w2 _
  have hb : Below w2.heap.size w2 (w2.alloc (.cells (d16 L19) 56)) := ((Below.refl _ _).alloc (Nat.le_refl _) _)
  generalize (w2.alloc (.cells (d16 L19) 56)) = w3 at *
  have lt_g3_0 := lt_of_row rp0
  have lt_g3_1 := lt_of_row rp1
  have sz_g3 := hw.size
  replace rp0 := keep hb rp0
  replace rp1 := keep hb rp1
  replace hw := Below.after hw hb
  clear hb
  generalize w2.heap.size = g3 at *
  clear w2
  go_wp2_with (fail)
  rw [z16]
  have rg5 := hp1_0 w3 (.cells (d16 0) 56)
  have hb : Below w3.heap.size w3 (w3.alloc (.cells (d16 0) 56)) := (Below.refl _ _).alloc (Nat.le_refl _) _
  generalize w3.alloc (.cells (d16 0) 56) = w4 at *
  have lt_g5_0 := lt_of_row rp0
  have lt_g5_1 := lt_of_row rp1
  have lt_g5_2 := lt_of_row rl3
  have sz_g5 := hw.size
  replace rp0 := keep hb rp0
  replace rp1 := keep hb rp1
  replace rl3 := keep hb rl3
  replace hw := Below.after hw hb
  clear hb
  generalize w3.heap.size = g5 at *
  go_loopw [4, 6] (fun c i wr => ∃ k : Nat, k ≤ 16 ∧ i = .int .i64 k ∧ c = .int .u32 (bor L19 A k) ∧ wr.heap[w.heap.size]? = some (.cells (d16 A) 58 (0, 0)) ∧ wr.heap[w.heap.size + 1]? = some (.cells (d16 0) 58 (0, 0)) ∧ wr.heap[g3]? = some (.cells (d16 L19) 56 (0, 0)) ∧ wr.heap[g5]? = some (.cells (dmx (L19 - A) 0 k) 56 (0, 0)) ∧ Below w.heap.size w wr) (fun _ i _ => 16 - (intOf i).toNat)
  case atStart => exact ⟨0, by omega, rfl, by rw [bor_0], rp0, rp1, rl3, rg5, hw⟩
  case round =>
   clear rp0 rp1 rl3 rg5 hw
   obtain ⟨k, hk, rfl, rfl, r0, r1, r2, r3, hw⟩ := hrel
   by_cases hlt : k < 16
   ·have hd : decide ((k : Int) < 16) = true := by simp; omega
    have hki : 0 ≤ (k : Int) ∧ (k : Int) < 16 := by omega
    have ca : wr.cell? ⟨g3, k, none⟩ = some (.int .u32 (dgt L19 k)) := (cell_of_row wr (g3) k _ _ _ r2).trans (d16_at _ _ hlt)
    have cb : wr.cell? ⟨w.heap.size, k, none⟩ = some (.int .u32 (dgt A k)) := (cell_of_row wr (w.heap.size) k _ _ _ r0).trans (d16_at _ _ hlt)
    have ba := dgt_bd L19 k
    have bb := dgt_bd A k
    have bc := bor_bd L19 A k
    have e1 := sub_dg L19 A k
    have e2 := hide e1.2
    replace e1 := hide e1.1
    have s1 := hide (dmx_set (L19 - A) 0 k hlt)
    generalize dgt L19 k = x at *
    generalize dgt A k = y at *
    generalize bor L19 A k = c at *
    go_wp2_with (fail)
    go_quiet (fail)
    rename_i nq
    have hb : Below wr.heap.size wr (wr.drewN nq) := below_drN (Below.refl _ _) nq
    replace r0 := keep hb r0
    replace r1 := keep hb r1
    replace r2 := keep hb r2
    replace r3 := keep hb r3
    replace hw := Below.after hw hb
    clear hb ca cb
    generalize wr.drewN nq = wd at *
    go_wp2_with (first | (refine wpList_store_cell31 rfl 55 _ _ rfl (g5) k rfl (.int .u32 ((x + 65536 - y - c) % 65536)) rfl 56 _ r3 (by rw [dmx_size]; exact hlt) (by kernel_rfl) rfl ?_; rw [e1.out, s1.out]; refine wpList_stay ?_) | fail)
    unfold WpStay
    replace r0 := (setRow_other wd (g5) (w.heap.size) (dmx (L19 - A) 0 (k + 1)) (by omega)).trans r0
    replace r1 := (setRow_other wd (g5) (w.heap.size + 1) (dmx (L19 - A) 0 (k + 1)) (by omega)).trans r1
    replace r2 := (setRow_other wd (g5) (g3) (dmx (L19 - A) 0 (k + 1)) (by omega)).trans r2
    replace r3 := setRow_heap wd (g5) _ (dmx (L19 - A) 0 (k + 1)) _ _ r3
    replace hw := below_setRow hw (show w.heap.size ≤ g5 by omega) (dmx (L19 - A) 0 (k + 1))
    generalize wd.setRow (g5) (dmx (L19 - A) 0 (k + 1)) = wn at *
    clear s1 e1
    go_wp2_with (fail)
    go_roundw
    case rel => exact ⟨k + 1, by omega, by go_num, by rw [e2.out], r0, r1, r2, r3, hw⟩
    case measure => simp [intOf]; omega
   ·obtain rfl : k = 16 := by omega
    have hd : decide (((16 : Nat) : Int) < 16) = false := by decide
    replace r3 : wr.heap[g5]? = some (.cells (d16 (L19 - A)) 56 (0, 0)) := r3
    go_wp2_with (first | (refine wpList_load_want rfl 58 _ rfl (w.heap.size) rfl 58 (d16 A) (0, 0) _ r0 Tryd.underlying58 rfl (d16_infoR _) ?_) | (refine wpList_load_want rfl 58 _ rfl (w.heap.size + 1) rfl 58 (d16 0) (0, 0) _ r1 Tryd.underlying58 rfl (d16_infoR _) ?_) | (refine wpList_load_want rfl 56 _ rfl (g3) rfl 56 (d16 L19) (0, 0) _ r2 Tryd.underlying56 rfl (d16_infoD _) ?_) | (refine wpList_load_want rfl 56 _ rfl (g5) rfl 56 (d16 (L19 - A)) (0, 0) _ r3 Tryd.underlying56 rfl (d16_infoD _) ?_) | (refine wpList_build_as rfl 58 _ rfl [(0, .agg (d16 (L19 - A)))] rfl (d16 (L19 - A)) (by kernel_rfl) ?_) | (refine wpList_store_row rfl 58 _ _ rfl (w.heap.size + 1) (d16 (L19 - A)) rfl rfl 58 _ r1 (d16_infoR _) ((d16_size _).trans (d16_size _).symm) (d16_one _) ?_) | fail)
    exact bodyPost_ret (v := .agg (d16 (L19 - A))) (results_cell_row Tryd.results29 _ _ (w.heap.size + 1) _ (d16 (L19 - A)) _ _ rfl (setRow_heap _ _ _ _ _ _ r1) Tryd.underlying58 rfl (d16_infoR _)) rfl ⟨rfl, below_setRow hw (by omega) _⟩
set_option maxRecDepth 100000 in
set_option maxHeartbeats 8000000 in
theorem r_sSub {A B : Int} (hA : 0 ≤ A ∧ A < L19) (hB : 0 ≤ B ∧ B < L19) : Gives 25 #[.agg (d16 A), .agg (d16 B)] (.agg (d16 ((A - B) % L19))) := by
 intro w
 have cN := r_sNeg hB
 have cA := r_sAdd hA (mod_L (-B))
 rw [show (A + -B % L19) % L19 = (A - B) % L19 by rw [Int.add_emod_emod, Int.sub_eq_add_neg]] at cA
 have rp0 := hp3_0 w (.cells (d16 A) 58) (.cells (d16 B) 58) (.cells (d16 0) 58)
 have rp1 := hp3_1 w (.cells (d16 A) 58) (.cells (d16 B) 58) (.cells (d16 0) 58)
 have rp2 := hp3_2 w (.cells (d16 A) 58) (.cells (d16 B) 58) (.cells (d16 0) 58)
 have hw : Below w.heap.size w (((w.alloc (.cells (d16 A) 58)).alloc (.cells (d16 B) 58)).alloc (.cells (d16 0) 58)) := ((((Below.refl _ _).alloc (Nat.le_refl _) _).alloc (by simp) _).alloc (by simp; omega) _)
 go_enter Tryd.func25, Tryd.ntmps25
 iterate 12 go_step
 try rw [z16]
 generalize (((w.alloc (.cells (d16 A) 58)).alloc (.cells (d16 B) 58)).alloc (.cells (d16 0) 58)) = w0 at *
 go_wp2_with (fail)
 have Hrp0 := keepr rp0
 have Hrp1 := keepr rp1
 have Hrp2 := keepr rp2
 refine wp_region_tail (C := fun w' => ∃ p : Regrown, w' = grow (redrawn w0 p.d) p.os) 4 _ rfl rfl rfl (by kernel_rfl) (by kernel_rfl) (by kernel_rfl) (by kernel_rfl) ⟨⟨w0.drawn + 1, #[]⟩, by rw [grow_empty]; rfl⟩ ?_
 dsimp only [List.set, idle]
 refine wpQuiet_load_row rfl 58 _ rfl (w.heap.size) rfl 58 (d16 A) (0, 0) _ Hrp0.out Tryd.underlying58 rfl (d16_infoR _) ?_
 simp only [Act.put, ZPd, ZPe, ZPf]
 refine wpQuiet_load_row rfl 58 _ rfl (w.heap.size + 1) rfl 58 (d16 B) (0, 0) _ Hrp1.out Tryd.underlying58 rfl (d16_infoR _) ?_
 simp only [Act.put, ZPd, ZPe, ZPf]
 go_big_quiet_step (exact cN.re)
 go_big_quiet_step (exact cA.re)
 refine wpQuiet_idle rfl rfl rfl ?_
 rintro _ ⟨p, rfl⟩
 have hb := below_regrown w0 p.d p.os
 generalize grow (redrawn w0 p.d) p.os = w2 at *
 clear Hrp0 Hrp1 Hrp2
 replace rp0 := keep hb rp0
 replace rp1 := keep hb rp1
 replace rp2 := keep hb rp2
 replace hw := Below.after hw hb
 clear hb
 go_wp2_with (first | (refine wpList_load_want rfl 58 _ rfl (w.heap.size) rfl 58 (d16 A) (0, 0) _ rp0 Tryd.underlying58 rfl (d16_infoR _) ?_) | (refine wpList_load_want rfl 58 _ rfl (w.heap.size + 1) rfl 58 (d16 B) (0, 0) _ rp1 Tryd.underlying58 rfl (d16_infoR _) ?_) | (refine wpList_load_want rfl 58 _ rfl (w.heap.size + 1 + 1) rfl 58 (d16 0) (0, 0) _ rp2 Tryd.underlying58 rfl (d16_infoR _) ?_) | (refine wpList_store_row rfl 58 _ _ rfl (w.heap.size + 1 + 1) (d16 ((A - B) % L19)) rfl rfl 58 _ rp2 (d16_infoR _) ((d16_size _).trans (d16_size _).symm) (d16_one _) ?_) | fail)
 exact bodyPost_ret (v := .agg (d16 ((A - B) % L19))) (results_cell_row Tryd.results25 _ _ (w.heap.size + 1 + 1) _ (d16 ((A - B) % L19)) _ _ rfl (setRow_heap _ _ _ _ _ _ rp2) Tryd.underlying58 rfl (d16_infoR _)) rfl ⟨rfl, below_setRow hw (by omega) _⟩
end Go.Proofs.YtdcpcdkbhgkmlaaDoor
namespace Go.Proofs.YtdcpcdkbhgkmlaaDoor
set_option maxRecDepth 100000
open Go.RowKit Go.Sort
attribute [local go_sem] setCell_drewN alloc_drewN
end Go.Proofs.YtdcpcdkbhgkmlaaDoor
namespace Go.Proofs.YtdcpcdkbhgkmlaaDoor
set_option maxRecDepth 100000
open Go.RowKit Go.Sort
attribute [local go_sem] setCell_drewN alloc_drewN
end Go.Proofs.YtdcpcdkbhgkmlaaDoor
namespace Go.Proofs.YtdcpcdkbhgkmlaaDoor
set_option maxRecDepth 100000
open Go.RowKit Go.Sort
attribute [local go_sem] setCell_drewN alloc_drewN
end Go.Proofs.YtdcpcdkbhgkmlaaDoor
namespace Go.Proofs.YtdcpcdkbhgkmlaaDoor
set_option maxRecDepth 100000
open Go.RowKit Go.Sort
attribute [local go_sem] setCell_drewN alloc_drewN
theorem bit8 (z : Int) (j : Nat) (h0 : 0 ≤ z) (h1 : z < 256) (hj : j < 8) : (128 ≤ z * 2 ^ j % 256 ↔ z.toNat / 2 ^ (7 - j) % 2 = 1) ∧ z * 2 ^ j % 256 % 128 * 2 = z * 2 ^ (j + 1) % 256 ∧ z.toNat / 2 ^ (7 - j) / 2 = z.toNat / 2 ^ (8 - j) ∧ 8 - (j + 1) = 7 - j := by
 rcases (by omega : j = 0 ∨ j = 1 ∨ j = 2 ∨ j = 3 ∨ j = 4 ∨ j = 5 ∨ j = 6 ∨ j = 7) with rfl | rfl | rfl | rfl | rfl | rfl | rfl | rfl <;> simp <;> omega
end Go.Proofs.YtdcpcdkbhgkmlaaDoor

