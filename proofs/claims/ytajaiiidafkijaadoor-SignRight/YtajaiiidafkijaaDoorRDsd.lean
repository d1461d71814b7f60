import Derived.Test.YtajaiiidafkijaaDoorProg
import Derived.WalkKit
import Derived.WalkSpells
import Derived.WalkLawsBesides
import Derived.Lib.QuietBelow
import Derived.BigQuiet
import Derived.Test.YtajaiiidafkijaaDoorRKa
import Derived.Test.YtajaiiidafkijaaDoorRDsc
import Derived.Test.YtajaiiidafkijaaDoorRFc
import Derived.Test.YtajaiiidafkijaaDoorRAb
import Derived.Test.YtajaiiidafkijaaDoorRGs
namespace Go.Proofs.YtajaiiidafkijaaDoor
set_option maxRecDepth 100000
open Go.RowKit Go.Sort
attribute [local go_sem] setCell_drewN alloc_drewN
theorem times_step (x m c : Int) (hx : 0 ≤ x ∧ x < 18446744073709551616) (hm : 0 ≤ m ∧ m < 18446744073709551616) (hc : 0 ≤ c ∧ c < 18446744073709551616) : ∃ h l s o : Int, (∀ W, Calls Tryd.prog 143 #[.int .u64 x, .int .u64 m] W fun e w' => e = .returned (.tuple #[.int .u64 h, .int .u64 l]) ∧ w' = W) ∧ (∀ W, (callFunc 144 #[.int .u64 l, .int .u64 c, .int .u64 0]).run Tryd.prog W = .ok (.value (.tuple #[.int .u64 s, .int .u64 o])) W) ∧ (0 ≤ s ∧ s < 18446744073709551616) ∧ (0 ≤ h + o ∧ h + o < 18446744073709551616) ∧ s + 18446744073709551616 * (h + o) = x * m + c := by
 have hp : 0 ≤ x * m ∧ x * m ≤ 340282366920938463426481119284349108225 := ⟨Int.mul_nonneg hx.1 hm.1, by
  have a : x * m ≤ 18446744073709551615 * m := Int.mul_le_mul_of_nonneg_right (by omega) hm.1
  omega⟩
 have c1 := fun W => mul64_any x m hx.1 hx.2 hm.1 hm.2 W
 obtain ⟨s, o, qs, qo, e, f⟩ := add64_call' (x * m % 18446744073709551616) c 0 (by omega) hc.1 (by omega) hc.2 (by decide) (by decide)
 exact ⟨x * m / 18446744073709551616, x * m % 18446744073709551616, s, o, c1, f, qs, by omega, by omega⟩
set_option maxRecDepth 100000 in
set_option maxHeartbeats 8000000 in
theorem wtimes_walk (a0 a1 a2 a3 m : Int) (ha0 : 0 ≤ a0 ∧ a0 < 18446744073709551616) (ha1 : 0 ≤ a1 ∧ a1 < 18446744073709551616) (ha2 : 0 ≤ a2 ∧ a2 < 18446744073709551616) (ha3 : 0 ≤ a3 ∧ a3 < 18446744073709551616) (hm : 0 ≤ m ∧ m < 18446744073709551616) (w : World) :
 Calls Tryd.prog 146 #[.agg #[.int .u64 a0, .int .u64 a1, .int .u64 a2, .int .u64 a3], .int .u64 m] w fun e w' => (∃ s0 s1 s2 s3 c1 c2 c3 c4 : Int, s0 + 18446744073709551616 * c1 = a0 * m ∧ s1 + 18446744073709551616 * c2 = a1 * m + c1 ∧ s2 + 18446744073709551616 * c3 = a2 * m + c2 ∧ s3 + 18446744073709551616 * c4 = a3 * m + c3 ∧ (0 ≤ s0 ∧ s0 < 18446744073709551616) ∧ (0 ≤ s1 ∧ s1 < 18446744073709551616) ∧ (0 ≤ s2 ∧ s2 < 18446744073709551616) ∧ (0 ≤ s3 ∧ s3 < 18446744073709551616) ∧ (0 ≤ c4 ∧ c4 < 18446744073709551616) ∧ e = .returned (.tuple #[.agg #[.int .u64 s0, .int .u64 s1, .int .u64 s2, .int .u64 s3], .int .u64 c4])) ∧ Below w.heap.size w w' := by
 obtain ⟨h0, l0, s0, o0, g0, f0, qs0, qc0, e0⟩ := times_step a0 m 0 ha0 hm ⟨by decide, by decide⟩
 obtain ⟨h1, l1, s1, o1, g1, f1, qs1, qc1, e1⟩ := times_step a1 m (h0 + o0) ha1 hm qc0
 obtain ⟨h2, l2, s2, o2, g2, f2, qs2, qc2, e2⟩ := times_step a2 m (h1 + o1) ha2 hm qc1
 obtain ⟨h3, l3, s3, o3, g3, f3, qs3, qc3, e3⟩ := times_step a3 m (h2 + o2) ha3 hm qc2
 have ra := hp2_0 w (.cells #[.int .u64 a0, .int .u64 a1, .int .u64 a2, .int .u64 a3] 52) (.cells #[.int .u64 0, .int .u64 0, .int .u64 0, .int .u64 0] 52)
 have rc := hp2_1 w (.cells #[.int .u64 a0, .int .u64 a1, .int .u64 a2, .int .u64 a3] 52) (.cells #[.int .u64 0, .int .u64 0, .int .u64 0, .int .u64 0] 52)
 have hw : Below w.heap.size w ((w.alloc (.cells #[.int .u64 a0, .int .u64 a1, .int .u64 a2, .int .u64 a3] 52)).alloc (.cells #[.int .u64 0, .int .u64 0, .int .u64 0, .int .u64 0] 52)) := ((Below.refl _ _).alloc (Nat.le_refl _) _).alloc (by simp) _
 go_enter Tryd.func146, Tryd.ntmps146
 go_wp2_with (fail)
 generalize ((w.alloc (.cells #[.int .u64 a0, .int .u64 a1, .int .u64 a2, .int .u64 a3] 52)).alloc (.cells #[.int .u64 0, .int .u64 0, .int .u64 0, .int .u64 0] 52)) = w0 at *
 go_loopw [6, 11] (fun u v wr => ∃ k : Nat, k ≤ 4 ∧ v = .int .i64 k ∧ ((k = 0 ∧ u = .int .u64 0 ∧ wr.heap[w.heap.size]? = some (.cells #[.int .u64 a0, .int .u64 a1, .int .u64 a2, .int .u64 a3] 52 (0, 0))) ∨ (k = 1 ∧ u = .int .u64 (h0 + o0) ∧ wr.heap[w.heap.size]? = some (.cells #[.int .u64 s0, .int .u64 a1, .int .u64 a2, .int .u64 a3] 52 (0, 0))) ∨ (k = 2 ∧ u = .int .u64 (h1 + o1) ∧ wr.heap[w.heap.size]? = some (.cells #[.int .u64 s0, .int .u64 s1, .int .u64 a2, .int .u64 a3] 52 (0, 0))) ∨ (k = 3 ∧ u = .int .u64 (h2 + o2) ∧ wr.heap[w.heap.size]? = some (.cells #[.int .u64 s0, .int .u64 s1, .int .u64 s2, .int .u64 a3] 52 (0, 0))) ∨ (k = 4 ∧ u = .int .u64 (h3 + o3) ∧ wr.heap[w.heap.size]? = some (.cells #[.int .u64 s0, .int .u64 s1, .int .u64 s2, .int .u64 s3] 52 (0, 0)))) ∧ wr.heap[w.heap.size + 1]? = some (.cells #[.int .u64 0, .int .u64 0, .int .u64 0, .int .u64 0] 52 (0, 0)) ∧ Below w.heap.size w wr) (fun _ v _ => 4 - (intOf v).toNat)
 case atStart => exact ⟨0, by omega, rfl, .inl ⟨rfl, rfl, ra⟩, rc, hw⟩
 case round =>
  clear ra rc hw
  obtain ⟨k, hk, rfl, hx, rc, hw⟩ := hrel
  rcases hx with ⟨rfl, rfl, ra⟩ | ⟨rfl, rfl, ra⟩ | ⟨rfl, rfl, ra⟩ | ⟨rfl, rfl, ra⟩ | ⟨rfl, rfl, ra⟩
  ·have hd : decide ((0 : Int) < 4) = true := by decide
   have ca : wr.cell? ⟨w.heap.size, 0, none⟩ = some (.int .u64 a0) := cell_of_row wr (w.heap.size) 0 _ _ _ ra
   have G := hide g0
   have q1 := setRow_heap wr (w.heap.size) _ #[.int .u64 s0, .int .u64 a1, .int .u64 a2, .int .u64 a3] _ _ ra
   have q2 := (setRow_other wr (w.heap.size) (w.heap.size + 1) #[.int .u64 s0, .int .u64 a1, .int .u64 a2, .int .u64 a3] (by omega)).trans rc
   have q3 := below_setRow hw (Nat.le_refl _) #[.int .u64 s0, .int .u64 a1, .int .u64 a2, .int .u64 a3]
   clear g0 g1 g2 g3
   go_wp2_with (first | (refine wpList_load_cell31 rfl 40 _ rfl (w.heap.size) 0 rfl _ ca Tryd.underlying40 ?_) | (go_at_call 143; refine (G.out _).mono ?_; rintro e W ⟨rfl, rfl⟩) | (refine wpList_store_cell31 rfl 40 _ _ rfl (w.heap.size) 0 rfl (.int .u64 s0) rfl 52 _ ra (by show 0 < 4; decide) infoW rfl ?_) | fail)
   go_roundw
   case rel => exact ⟨1, by omega, by go_num, .inr (.inl ⟨rfl, by go_num, q1⟩), q2, q3⟩
   case measure => simp [intOf]
  ·have hd : decide ((1 : Int) < 4) = true := by decide
   have ca : wr.cell? ⟨w.heap.size, 1, none⟩ = some (.int .u64 a1) := cell_of_row wr (w.heap.size) 1 _ _ _ ra
   have G := hide g1
   have q1 := setRow_heap wr (w.heap.size) _ #[.int .u64 s0, .int .u64 s1, .int .u64 a2, .int .u64 a3] _ _ ra
   have q2 := (setRow_other wr (w.heap.size) (w.heap.size + 1) #[.int .u64 s0, .int .u64 s1, .int .u64 a2, .int .u64 a3] (by omega)).trans rc
   have q3 := below_setRow hw (Nat.le_refl _) #[.int .u64 s0, .int .u64 s1, .int .u64 a2, .int .u64 a3]
   clear g0 g1 g2 g3
   go_wp2_with (first | (refine wpList_load_cell31 rfl 40 _ rfl (w.heap.size) 1 rfl _ ca Tryd.underlying40 ?_) | (go_at_call 143; refine (G.out _).mono ?_; rintro e W ⟨rfl, rfl⟩) | (refine wpList_store_cell31 rfl 40 _ _ rfl (w.heap.size) 1 rfl (.int .u64 s1) rfl 52 _ ra (by show 1 < 4; decide) infoW rfl ?_) | fail)
   go_roundw
   case rel => exact ⟨2, by omega, by go_num, .inr (.inr (.inl ⟨rfl, by go_num, q1⟩)), q2, q3⟩
   case measure => simp [intOf]
  ·have hd : decide ((2 : Int) < 4) = true := by decide
   have ca : wr.cell? ⟨w.heap.size, 2, none⟩ = some (.int .u64 a2) := cell_of_row wr (w.heap.size) 2 _ _ _ ra
   have G := hide g2
   have q1 := setRow_heap wr (w.heap.size) _ #[.int .u64 s0, .int .u64 s1, .int .u64 s2, .int .u64 a3] _ _ ra
   have q2 := (setRow_other wr (w.heap.size) (w.heap.size + 1) #[.int .u64 s0, .int .u64 s1, .int .u64 s2, .int .u64 a3] (by omega)).trans rc
   have q3 := below_setRow hw (Nat.le_refl _) #[.int .u64 s0, .int .u64 s1, .int .u64 s2, .int .u64 a3]
   clear g0 g1 g2 g3
   go_wp2_with (first | (refine wpList_load_cell31 rfl 40 _ rfl (w.heap.size) 2 rfl _ ca Tryd.underlying40 ?_) | (go_at_call 143; refine (G.out _).mono ?_; rintro e W ⟨rfl, rfl⟩) | (refine wpList_store_cell31 rfl 40 _ _ rfl (w.heap.size) 2 rfl (.int .u64 s2) rfl 52 _ ra (by show 2 < 4; decide) infoW rfl ?_) | fail)
   go_roundw
   case rel => exact ⟨3, by omega, by go_num, .inr (.inr (.inr (.inl ⟨rfl, by go_num, q1⟩))), q2, q3⟩
   case measure => simp [intOf]
  ·have hd : decide ((3 : Int) < 4) = true := by decide
   have ca : wr.cell? ⟨w.heap.size, 3, none⟩ = some (.int .u64 a3) := cell_of_row wr (w.heap.size) 3 _ _ _ ra
   have G := hide g3
   have q1 := setRow_heap wr (w.heap.size) _ #[.int .u64 s0, .int .u64 s1, .int .u64 s2, .int .u64 s3] _ _ ra
   have q2 := (setRow_other wr (w.heap.size) (w.heap.size + 1) #[.int .u64 s0, .int .u64 s1, .int .u64 s2, .int .u64 s3] (by omega)).trans rc
   have q3 := below_setRow hw (Nat.le_refl _) #[.int .u64 s0, .int .u64 s1, .int .u64 s2, .int .u64 s3]
   clear g0 g1 g2 g3
   go_wp2_with (first | (refine wpList_load_cell31 rfl 40 _ rfl (w.heap.size) 3 rfl _ ca Tryd.underlying40 ?_) | (go_at_call 143; refine (G.out _).mono ?_; rintro e W ⟨rfl, rfl⟩) | (refine wpList_store_cell31 rfl 40 _ _ rfl (w.heap.size) 3 rfl (.int .u64 s3) rfl 52 _ ra (by show 3 < 4; decide) infoW rfl ?_) | fail)
   go_roundw
   case rel => exact ⟨4, by omega, by go_num, .inr (.inr (.inr (.inr ⟨rfl, by go_num, q1⟩))), q2, q3⟩
   case measure => simp [intOf]
  ·have hd : decide ((4 : Int) < 4) = false := by decide
   clear g0 g1 g2 g3
   go_wp2_with (first | (refine wpList_load_want rfl 52 _ rfl (w.heap.size) rfl 52 #[.int .u64 s0, .int .u64 s1, .int .u64 s2, .int .u64 s3] (0, 0) _ ra Tryd.underlying52 rfl (by kernel_rfl) ?_) | (refine wpList_store_row rfl 52 _ _ rfl (w.heap.size + 1) #[.int .u64 s0, .int .u64 s1, .int .u64 s2, .int .u64 s3] rfl rfl 52 _ rc (by kernel_rfl) rfl (by kernel_rfl) ?_) | fail)
   exact bodyPost_ret (v := .tuple #[.agg #[.int .u64 s0, .int .u64 s1, .int .u64 s2, .int .u64 s3], .int .u64 (h3 + o3)]) (results_row_slot Tryd.results146 _ _ (w.heap.size + 1) _ #[.int .u64 s0, .int .u64 s1, .int .u64 s2, .int .u64 s3] _ _ _ rfl (setRow_heap _ _ _ _ _ _ rc) rfl Tryd.underlying52 rfl (by kernel_rfl)) rfl ⟨⟨s0, s1, s2, s3, (h0 + o0), (h1 + o1), (h2 + o2), (h3 + o3), by omega, e1, e2, e3, qs0, qs1, qs2, qs3, qc3, rfl⟩, below_setRow hw (by omega) _⟩
theorem a_wplus {A B : Int} (hA : 0 ≤ A ∧ A < 115792089237316195423570985008687907853269984665640564039457584007913129639936) (hB : 0 ≤ B ∧ B < 115792089237316195423570985008687907853269984665640564039457584007913129639936) : Gives 128 #[.agg (wd A), .agg (wd B)] (.tuple #[.agg (wd ((A + B) % 115792089237316195423570985008687907853269984665640564039457584007913129639936)), .int .u64 ((A + B) / 115792089237316195423570985008687907853269984665640564039457584007913129639936)]) := by
 obtain ⟨a0, a1, a2, a3, rfl, ha0, ha1, ha2, ha3⟩ := w4_of hA.1 hA.2
 obtain ⟨b0, b1, b2, b3, rfl, hb0, hb1, hb2, hb3⟩ := w4_of hB.1 hB.2
 rw [wd_w4 ha0 ha1 ha2 ha3, wd_w4 hb0 hb1 hb2 hb3]
 intro w
 refine (wplus_walk a0 a1 a2 a3 b0 b1 b2 b3 ha0 ha1 ha2 ha3 hb0 hb1 hb2 hb3 w).mono ?_
 rintro e w' ⟨⟨s0, s1, s2, s3, c1, c2, c3, c4, e0, e1, e2, e3, q0, q1, q2, q3, q4, rfl⟩, hb⟩
 obtain ⟨x1, x2⟩ := plus_w e0 e1 e2 e3 q0 q1 q2 q3
 rw [← x1, ← x2, wd_w4 q0 q1 q2 q3]
 exact ⟨rfl, hb⟩
theorem a_wminus {A B : Int} (hA : 0 ≤ A ∧ A < 115792089237316195423570985008687907853269984665640564039457584007913129639936) (hB : 0 ≤ B ∧ B < 115792089237316195423570985008687907853269984665640564039457584007913129639936) : Gives 74 #[.agg (wd A), .agg (wd B)] (.tuple #[.agg (wd ((A - B) % 115792089237316195423570985008687907853269984665640564039457584007913129639936)), .int .u64 (-((A - B) / 115792089237316195423570985008687907853269984665640564039457584007913129639936))]) := by
 obtain ⟨a0, a1, a2, a3, rfl, ha0, ha1, ha2, ha3⟩ := w4_of hA.1 hA.2
 obtain ⟨b0, b1, b2, b3, rfl, hb0, hb1, hb2, hb3⟩ := w4_of hB.1 hB.2
 rw [wd_w4 ha0 ha1 ha2 ha3, wd_w4 hb0 hb1 hb2 hb3]
 intro w
 refine (wminus_walk a0 a1 a2 a3 b0 b1 b2 b3 ha0 ha1 ha2 ha3 hb0 hb1 hb2 hb3 w).mono ?_
 rintro e w' ⟨⟨s0, s1, s2, s3, c1, c2, c3, c4, e0, e1, e2, e3, q0, q1, q2, q3, q4, rfl⟩, hb⟩
 obtain ⟨x1, x2⟩ := minus_w e0 e1 e2 e3 q0 q1 q2 q3
 rw [← x1, ← x2, wd_w4 q0 q1 q2 q3]
 exact ⟨rfl, hb⟩
theorem a_wtimes {A B  : Int} (hA : 0 ≤ A ∧ A < 115792089237316195423570985008687907853269984665640564039457584007913129639936) (hB : 0 ≤ B ∧ B < 18446744073709551616) : Gives 146 #[.agg (wd A), .int .u64 B] (.tuple #[.agg (wd (A * B % 115792089237316195423570985008687907853269984665640564039457584007913129639936)), .int .u64 (A * B / 115792089237316195423570985008687907853269984665640564039457584007913129639936)]) := by
 obtain ⟨a0, a1, a2, a3, rfl, ha0, ha1, ha2, ha3⟩ := w4_of hA.1 hA.2
 rw [wd_w4 ha0 ha1 ha2 ha3]
 intro w
 refine (wtimes_walk a0 a1 a2 a3 B ha0 ha1 ha2 ha3 hB w).mono ?_
 rintro e w' ⟨⟨s0, s1, s2, s3, c1, c2, c3, c4, e0, e1, e2, e3, q0, q1, q2, q3, q4, rfl⟩, hb⟩
 obtain ⟨x1, x2⟩ := times_w e0 e1 e2 e3 q0 q1 q2 q3
 rw [← x1, ← x2, wd_w4 q0 q1 q2 q3]
 exact ⟨rfl, hb⟩
end Go.Proofs.YtajaiiidafkijaaDoor
namespace Go.Proofs.YtajaiiidafkijaaDoor
set_option maxRecDepth 100000
open Go.RowKit Go.Sort
attribute [local go_sem] setCell_drewN alloc_drewN
def Bys (W : World) (v : Value) (bs : List Int) : Prop := ∃ ao cap, v = .slice ao bs.length cap ∧ bs.length ≤ 9223372036854775807 ∧ (∀ j, j < bs.length → ∃ b off, ao = some ⟨b, off, none⟩ ∧ b < W.heap.size ∧ W.cell? ⟨b, off + j, none⟩ = some (.int .u8 (bs.getD j 0))) ∧ (∀ z ∈ bs, 0 ≤ z ∧ z < 256)
theorem Bys.keep {W W' : World} {v : Value} {bs : List Int} (h : Bys W v bs) (hb : Below W.heap.size W W') : Bys W' v bs := by
 obtain ⟨ao, cap, e, hl, hc, hz⟩ := h
 refine ⟨ao, cap, e, hl, fun j hj => ?_, hz⟩
 obtain ⟨b, off, e1, h1, h2⟩ := hc j hj
 exact ⟨b, off, e1, Nat.lt_of_lt_of_le h1 hb.size, (hb.cell h1).trans h2⟩
def bval : List Int → Nat
 | [] => 0
 | z :: l => z.toNat + 256 * bval l
def bat (bs : List Int) (k : Nat) : Int := bs.getD (bs.length - 1 - k) 0
theorem bat_bd {bs : List Int} (h : ∀ z ∈ bs, 0 ≤ z ∧ z < 256) {k : Nat} (hk : k < bs.length) : 0 ≤ bat bs k ∧ bat bs k < 256 := by
 apply h
 have : bs.length - 1 - k < bs.length := by omega
 unfold bat
 rw [List.getD_eq_getElem?_getD, List.getElem?_eq_getElem this]
 exact List.getElem_mem _
def topv (bs : List Int) (k : Nat) : Nat := bval (bs.drop (bs.length - k))
theorem topv_zero (bs : List Int) : topv bs 0 = 0 := by simp [topv, bval]
theorem topv_succ {bs : List Int} {k : Nat} (hk : k < bs.length) : topv bs (k + 1) = topv bs k * 256 + (bat bs k).toNat := by
 have h1 : bs.length - (k + 1) < bs.length := by omega
 unfold topv bat
 rw [List.drop_eq_getElem_cons h1, bval, show bs.length - (k + 1) + 1 = bs.length - k by omega, show bs.length - 1 - k = bs.length - (k + 1) by omega, List.getD_eq_getElem?_getD, List.getElem?_eq_getElem h1]
 simp only [Option.getD_some]
 omega
theorem topv_all (bs : List Int) : topv bs bs.length = bval bs := by simp [topv]
end Go.Proofs.YtajaiiidafkijaaDoor
namespace Go.Proofs.YtajaiiidafkijaaDoor
set_option maxRecDepth 100000
open Go.RowKit Go.Sort
attribute [local go_sem] setCell_drewN alloc_drewN
theorem and8 (x : Int) (h0 : 0 ≤ x) (h1 : x < 256) : bits .and .u8 x 1 = x % 2 := by
 rw [u8_and x 1 h0 h1 (by decide) (by decide)]
 have e : (1 : Int).toNat = 1 := by decide
 rw [e, nat_mask1]
 omega
theorem bit_at (z : Int) (j : Nat) (h0 : 0 ≤ z) (h1 : z < 256) : (bits .and .u8 (z / 2 ^ j) 1 == 1) = decide (z.toNat / 2 ^ j % 2 = 1) := by
 obtain ⟨m, rfl⟩ := Int.eq_ofNat_of_zero_le h0
 have e : (m : Int) / 2 ^ j = ((m / 2 ^ j : Nat) : Int) := by simp
 have hle := Nat.div_le_self m (2 ^ j)
 rw [e, Int.toNat_natCast]
 generalize m / 2 ^ j = q at *
 rw [and8 _ (by omega) (by omega)]
 by_cases h : q % 2 = 1
 ·rw [decide_eq_true h, beq_iff_eq]; omega
 ·rw [decide_eq_false h, beq_eq_false_iff_ne]; omega
end Go.Proofs.YtajaiiidafkijaaDoor
namespace Go.Proofs.YtajaiiidafkijaaDoor
set_option maxRecDepth 100000
open Go.RowKit Go.Sort
attribute [local go_sem] setCell_drewN alloc_drewN
def Ord (w : World) : Prop := ∃ t fr, w.heap[2]? = some (.cells (wd L19) t fr)
theorem Ord.sz {w : World} (h : Ord w) : 2 < w.heap.size := by
 obtain ⟨t, fr, h⟩ := h
 exact (Array.getElem?_eq_some_iff.1 h).1
theorem Ord.belowN {w w' : World} {m : Nat} (h : Ord w) (hm : 2 < m) (hb : Below m w w') : Ord w' := by
 obtain ⟨t, fr, h⟩ := h
 exact ⟨t, fr, (hb.block _ hm).trans h⟩
theorem Ord.below {w w' : World} (h : Ord w) (hb : Below w.heap.size w w') : Ord w' := h.belowN h.sz hb
theorem Ord.alloc {w : World} (h : Ord w) (o : Obj) : Ord (w.alloc o) := h.below ((Below.refl _ _).alloc (Nat.le_refl _) _)
theorem Ord.setRow {w : World} {g : Nat} (h : Ord w) (hg : 2 < g) (cs : Array Value) : Ord (w.setRow g cs) := h.belowN (Nat.lt_succ_self _) (below_setRow (Below.refl _ _) hg cs)
theorem Ord.cell {w : World} (h : Ord w) (i : Nat) : w.cell? ⟨2, i, none⟩ = (wd L19)[i]? := by
 obtain ⟨t, fr, h⟩ := h
 exact cell_of_row w _ i _ _ _ h
def GivesO (f : FuncId) (args : Array Value) (v : Value) : Prop := ∀ W, Ord W → Calls Tryd.prog f args W fun e w' => e = .returned v ∧ Below W.heap.size W w'
theorem GivesO.at {f : FuncId} {args : Array Value} {v : Value} (h : GivesO f args v) {W : World} (hW : Ord W) : Calls Tryd.prog f args W fun e w' => e = .returned v ∧ Below W.heap.size W w' := h W hW
theorem GivesO.re {f : FuncId} {args : Array Value} {v : Value} (h : GivesO f args v) {w : World} {d : Nat} {os : Array Obj} (hw : Ord w) : Calls Tryd.prog f args (grow (redrawn w d) os) fun e w'' => e = .returned v ∧ ∃ p : Regrown, w'' = grow (redrawn w p.d) p.os := Calls.regrown_of (h _ (hw.below (below_regrown w d os)))
theorem wd_infoW (A : Int) : (Tryd.prog.info? 52).map (·.size) = some (wd A).size := by rw [wd_size]; kernel_rfl
theorem wd_infoS (A : Int) : (Tryd.prog.info? 54).map (·.size) = some (wd A).size := by rw [wd_size]; kernel_rfl
theorem wd_part (A : Int) : (wd A).extract 0 (0 + (wd A).size) = wd A := by simp
theorem wd_built (A : Int) : Tryd.prog.built 54 [(0, .agg (wd A))] = some (wd A) := by kernel_rfl
set_option maxRecDepth 100000 in
set_option maxHeartbeats 8000000 in
theorem within_0 {A : Int} (hA : 0 ≤ A ∧ A < 115792089237316195423570985008687907853269984665640564039457584007913129639936) : GivesO 90 #[.agg (wd A), .int .u64 0] (.agg (wd ((A + 0 * L19) % 115792089237316195423570985008687907853269984665640564039457584007913129639936))) := by
 intro w hF
 have cP := a_wplus hA (B := 0 * L19) (by unfold L19; decide)
 generalize (A + 0 * L19) / 115792089237316195423570985008687907853269984665640564039457584007913129639936 = ov at *
 generalize ((A + 0 * L19) % 115792089237316195423570985008687907853269984665640564039457584007913129639936) = R at *
 have ra := hp3_0 w (.cells (wd A) 52) (.cells #[.int .u64 0, .int .u64 0, .int .u64 0, .int .u64 0] 54) (.cells #[.int .u64 0, .int .u64 0, .int .u64 0, .int .u64 0] 52)
 have rb := hp3_1 w (.cells (wd A) 52) (.cells #[.int .u64 0, .int .u64 0, .int .u64 0, .int .u64 0] 54) (.cells #[.int .u64 0, .int .u64 0, .int .u64 0, .int .u64 0] 52)
 have rc := hp3_2 w (.cells (wd A) 52) (.cells #[.int .u64 0, .int .u64 0, .int .u64 0, .int .u64 0] 54) (.cells #[.int .u64 0, .int .u64 0, .int .u64 0, .int .u64 0] 52)
 have hw : Below w.heap.size w (((w.alloc (.cells (wd A) 52)).alloc (.cells #[.int .u64 0, .int .u64 0, .int .u64 0, .int .u64 0] 54)).alloc (.cells #[.int .u64 0, .int .u64 0, .int .u64 0, .int .u64 0] 52)) := (((Below.refl _ _).alloc (Nat.le_refl _) _).alloc (by simp) _).alloc (by simp; omega) _
 have f4 : Ord (((w.alloc (.cells (wd A) 52)).alloc (.cells #[.int .u64 0, .int .u64 0, .int .u64 0, .int .u64 0] 54)).alloc (.cells #[.int .u64 0, .int .u64 0, .int .u64 0, .int .u64 0] 52)) := ((hF.alloc _).alloc _).alloc _
 have hz := hF.sz
 go_enter Tryd.func90, Tryd.ntmps90
 go_wp2_with (fail)
 generalize (((w.alloc (.cells (wd A) 52)).alloc (.cells #[.int .u64 0, .int .u64 0, .int .u64 0, .int .u64 0] 54)).alloc (.cells #[.int .u64 0, .int .u64 0, .int .u64 0, .int .u64 0] 52)) = w0 at *
 go_loopw [7] (fun v wr => ∃ k : Nat, k ≤ 4 ∧ v = .int .i64 k ∧ wr.heap[w.heap.size]? = some (.cells (wd A) 52 (0, 0)) ∧ wr.heap[w.heap.size + 1]? = some (.cells #[.int .u64 0, .int .u64 0, .int .u64 0, .int .u64 0] 54 (0, 0)) ∧ ((k = 0 ∧ wr.heap[w.heap.size + 1 + 1]? = some (.cells #[.int .u64 0, .int .u64 0, .int .u64 0, .int .u64 0] 52 (0, 0))) ∨ (k = 1 ∧ wr.heap[w.heap.size + 1 + 1]? = some (.cells #[.int .u64 0, .int .u64 0, .int .u64 0, .int .u64 0] 52 (0, 0))) ∨ (k = 2 ∧ wr.heap[w.heap.size + 1 + 1]? = some (.cells #[.int .u64 0, .int .u64 0, .int .u64 0, .int .u64 0] 52 (0, 0))) ∨ (k = 3 ∧ wr.heap[w.heap.size + 1 + 1]? = some (.cells #[.int .u64 0, .int .u64 0, .int .u64 0, .int .u64 0] 52 (0, 0))) ∨ (k = 4 ∧ wr.heap[w.heap.size + 1 + 1]? = some (.cells #[.int .u64 0, .int .u64 0, .int .u64 0, .int .u64 0] 52 (0, 0)))) ∧ Below w.heap.size w wr ∧ Ord wr) (fun v _ => 4 - (intOf v).toNat)
 case atStart => exact ⟨0, by omega, rfl, ra, rb, .inl ⟨rfl, rc⟩, hw, f4⟩
 case round =>
  clear ra rb rc hw f4
  obtain ⟨k, hk, rfl, ra, rb, hx, hw, f4⟩ := hrel
  rcases hx with ⟨rfl, rc⟩ | ⟨rfl, rc⟩ | ⟨rfl, rc⟩ | ⟨rfl, rc⟩ | ⟨rfl, rc⟩
  ·have hd : decide ((0 : Int) < 4) = true := by decide
   have co : wr.cell? ⟨2, 0, none⟩ = some (.int .u64 6346243789798364141) := f4.cell 0
   have eb : bits .and .u64 6346243789798364141 0 = 0 := by decide +kernel
   have q0 := (setRow_other wr (w.heap.size + 1 + 1) (w.heap.size) #[.int .u64 0, .int .u64 0, .int .u64 0, .int .u64 0] (by omega)).trans ra
   have q1 := (setRow_other wr (w.heap.size + 1 + 1) (w.heap.size + 1) #[.int .u64 0, .int .u64 0, .int .u64 0, .int .u64 0] (by omega)).trans rb
   have q2 := setRow_heap wr (w.heap.size + 1 + 1) _ #[.int .u64 0, .int .u64 0, .int .u64 0, .int .u64 0] _ _ rc
   have q3 := below_setRow hw (show w.heap.size ≤ w.heap.size + 1 + 1 by omega) #[.int .u64 0, .int .u64 0, .int .u64 0, .int .u64 0]
   have q4 := f4.setRow (show 2 < w.heap.size + 1 + 1 by omega) #[.int .u64 0, .int .u64 0, .int .u64 0, .int .u64 0]
   go_wp2_with (first | (refine wpList_load_cell31 rfl 40 _ rfl (2) 0 rfl _ co Tryd.underlying40 ?_) | (refine wpList_store_cell31 rfl 40 _ _ rfl (w.heap.size + 1 + 1) 0 rfl (.int .u64 0) (by first | rfl | (rw [← eb]; rfl)) 52 _ rc (by show 0 < 4; decide) infoW rfl ?_) | fail)
   go_roundw
   case rel => exact ⟨1, by omega, by go_num, q0, q1, .inr (.inl ⟨rfl, q2⟩), q3, q4⟩
   case measure => simp [intOf]
  ·have hd : decide ((1 : Int) < 4) = true := by decide
   have co : wr.cell? ⟨2, 1, none⟩ = some (.int .u64 1503914060200516822) := f4.cell 1
   have eb : bits .and .u64 1503914060200516822 0 = 0 := by decide +kernel
   have q0 := (setRow_other wr (w.heap.size + 1 + 1) (w.heap.size) #[.int .u64 0, .int .u64 0, .int .u64 0, .int .u64 0] (by omega)).trans ra
   have q1 := (setRow_other wr (w.heap.size + 1 + 1) (w.heap.size + 1) #[.int .u64 0, .int .u64 0, .int .u64 0, .int .u64 0] (by omega)).trans rb
   have q2 := setRow_heap wr (w.heap.size + 1 + 1) _ #[.int .u64 0, .int .u64 0, .int .u64 0, .int .u64 0] _ _ rc
   have q3 := below_setRow hw (show w.heap.size ≤ w.heap.size + 1 + 1 by omega) #[.int .u64 0, .int .u64 0, .int .u64 0, .int .u64 0]
   have q4 := f4.setRow (show 2 < w.heap.size + 1 + 1 by omega) #[.int .u64 0, .int .u64 0, .int .u64 0, .int .u64 0]
   go_wp2_with (first | (refine wpList_load_cell31 rfl 40 _ rfl (2) 1 rfl _ co Tryd.underlying40 ?_) | (refine wpList_store_cell31 rfl 40 _ _ rfl (w.heap.size + 1 + 1) 1 rfl (.int .u64 0) (by first | rfl | (rw [← eb]; rfl)) 52 _ rc (by show 1 < 4; decide) infoW rfl ?_) | fail)
   go_roundw
   case rel => exact ⟨2, by omega, by go_num, q0, q1, .inr (.inr (.inl ⟨rfl, q2⟩)), q3, q4⟩
   case measure => simp [intOf]
  ·have hd : decide ((2 : Int) < 4) = true := by decide
   have co : wr.cell? ⟨2, 2, none⟩ = some (.int .u64 0) := f4.cell 2
   have eb : bits .and .u64 0 0 = 0 := by decide +kernel
   have q0 := (setRow_other wr (w.heap.size + 1 + 1) (w.heap.size) #[.int .u64 0, .int .u64 0, .int .u64 0, .int .u64 0] (by omega)).trans ra
   have q1 := (setRow_other wr (w.heap.size + 1 + 1) (w.heap.size + 1) #[.int .u64 0, .int .u64 0, .int .u64 0, .int .u64 0] (by omega)).trans rb
   have q2 := setRow_heap wr (w.heap.size + 1 + 1) _ #[.int .u64 0, .int .u64 0, .int .u64 0, .int .u64 0] _ _ rc
   have q3 := below_setRow hw (show w.heap.size ≤ w.heap.size + 1 + 1 by omega) #[.int .u64 0, .int .u64 0, .int .u64 0, .int .u64 0]
   have q4 := f4.setRow (show 2 < w.heap.size + 1 + 1 by omega) #[.int .u64 0, .int .u64 0, .int .u64 0, .int .u64 0]
   go_wp2_with (first | (refine wpList_load_cell31 rfl 40 _ rfl (2) 2 rfl _ co Tryd.underlying40 ?_) | (refine wpList_store_cell31 rfl 40 _ _ rfl (w.heap.size + 1 + 1) 2 rfl (.int .u64 0) (by first | rfl | (rw [← eb]; rfl)) 52 _ rc (by show 2 < 4; decide) infoW rfl ?_) | fail)
   go_roundw
   case rel => exact ⟨3, by omega, by go_num, q0, q1, .inr (.inr (.inr (.inl ⟨rfl, q2⟩))), q3, q4⟩
   case measure => simp [intOf]
  ·have hd : decide ((3 : Int) < 4) = true := by decide
   have co : wr.cell? ⟨2, 3, none⟩ = some (.int .u64 1152921504606846976) := f4.cell 3
   have eb : bits .and .u64 1152921504606846976 0 = 0 := by decide +kernel
   have q0 := (setRow_other wr (w.heap.size + 1 + 1) (w.heap.size) #[.int .u64 0, .int .u64 0, .int .u64 0, .int .u64 0] (by omega)).trans ra
   have q1 := (setRow_other wr (w.heap.size + 1 + 1) (w.heap.size + 1) #[.int .u64 0, .int .u64 0, .int .u64 0, .int .u64 0] (by omega)).trans rb
   have q2 := setRow_heap wr (w.heap.size + 1 + 1) _ #[.int .u64 0, .int .u64 0, .int .u64 0, .int .u64 0] _ _ rc
   have q3 := below_setRow hw (show w.heap.size ≤ w.heap.size + 1 + 1 by omega) #[.int .u64 0, .int .u64 0, .int .u64 0, .int .u64 0]
   have q4 := f4.setRow (show 2 < w.heap.size + 1 + 1 by omega) #[.int .u64 0, .int .u64 0, .int .u64 0, .int .u64 0]
   go_wp2_with (first | (refine wpList_load_cell31 rfl 40 _ rfl (2) 3 rfl _ co Tryd.underlying40 ?_) | (refine wpList_store_cell31 rfl 40 _ _ rfl (w.heap.size + 1 + 1) 3 rfl (.int .u64 0) (by first | rfl | (rw [← eb]; rfl)) 52 _ rc (by show 3 < 4; decide) infoW rfl ?_) | fail)
   go_roundw
   case rel => exact ⟨4, by omega, by go_num, q0, q1, .inr (.inr (.inr (.inr ⟨rfl, q2⟩))), q3, q4⟩
   case measure => simp [intOf]
  ·have hd : decide ((4 : Int) < 4) = false := by decide
   replace rc : wr.heap[w.heap.size + 1 + 1]? = some (.cells (wd (0 * L19)) 52 (0, 0)) := rc
   go_wp2_with (first | (refine wpList_load_want rfl 52 _ rfl (w.heap.size) rfl 52 (wd A) (0, 0) _ ra Tryd.underlying52 rfl (wd_infoW _) ?_) | (refine wpList_load_want rfl 52 _ rfl (w.heap.size + 1 + 1) rfl 52 (wd (0 * L19)) (0, 0) _ rc Tryd.underlying52 rfl (wd_infoW _) ?_) | fail)
   refine (cP.at _).mono ?_
   rintro e w1 ⟨rfl, hb⟩
   replace ra := keep hb ra
   replace rb := keep hb rb
   replace hw := Below.after hw hb
   clear hb
   go_wp2_with (first | (refine wpList_store_row rfl 52 _ _ rfl (w.heap.size) (wd R) rfl rfl 52 _ ra (wd_infoW _) rfl (wd_one _) ?_; refine wpList_stay ?_) | fail)
   unfold WpStay
   replace rb := (setRow_other w1 (w.heap.size) (w.heap.size + 1) (wd R) (by omega)).trans rb
   replace ra := setRow_heap w1 (w.heap.size) _ (wd R) _ _ ra
   replace hw := below_setRow hw (Nat.le_refl _) (wd R)
   generalize w1.setRow (w.heap.size) (wd R) = w2 at *
   go_wp2_with (first | (refine wpList_load_want rfl 52 _ rfl (w.heap.size) rfl 52 (wd R) (0, 0) _ ra Tryd.underlying52 rfl (wd_infoW _) ?_) | (refine wpList_build_as rfl 54 _ rfl [(0, .agg (wd R))] rfl (wd R) (wd_built R) ?_) | (refine wpList_store_row rfl 54 _ _ rfl (w.heap.size + 1) (wd R) rfl rfl 54 _ rb (wd_infoS _) rfl (wd_one _) ?_) | fail)
   exact bodyPost_ret (v := .agg (wd R)) (results_cell_row Tryd.results90 _ _ (w.heap.size + 1) _ (wd R) _ _ rfl (setRow_heap _ _ _ _ _ _ rb) Tryd.underlying54 rfl (wd_infoS _)) rfl ⟨rfl, below_setRow hw (by omega) _⟩
set_option maxRecDepth 100000 in
set_option maxHeartbeats 8000000 in
theorem within_1 {A : Int} (hA : 0 ≤ A ∧ A < 115792089237316195423570985008687907853269984665640564039457584007913129639936) : GivesO 90 #[.agg (wd A), .int .u64 1] (.agg (wd ((A + 1 * L19) % 115792089237316195423570985008687907853269984665640564039457584007913129639936))) := by
 intro w hF
 have cP := a_wplus hA (B := 1 * L19) (by unfold L19; decide)
 generalize (A + 1 * L19) / 115792089237316195423570985008687907853269984665640564039457584007913129639936 = ov at *
 generalize ((A + 1 * L19) % 115792089237316195423570985008687907853269984665640564039457584007913129639936) = R at *
 have ra := hp3_0 w (.cells (wd A) 52) (.cells #[.int .u64 0, .int .u64 0, .int .u64 0, .int .u64 0] 54) (.cells #[.int .u64 0, .int .u64 0, .int .u64 0, .int .u64 0] 52)
 have rb := hp3_1 w (.cells (wd A) 52) (.cells #[.int .u64 0, .int .u64 0, .int .u64 0, .int .u64 0] 54) (.cells #[.int .u64 0, .int .u64 0, .int .u64 0, .int .u64 0] 52)
 have rc := hp3_2 w (.cells (wd A) 52) (.cells #[.int .u64 0, .int .u64 0, .int .u64 0, .int .u64 0] 54) (.cells #[.int .u64 0, .int .u64 0, .int .u64 0, .int .u64 0] 52)
 have hw : Below w.heap.size w (((w.alloc (.cells (wd A) 52)).alloc (.cells #[.int .u64 0, .int .u64 0, .int .u64 0, .int .u64 0] 54)).alloc (.cells #[.int .u64 0, .int .u64 0, .int .u64 0, .int .u64 0] 52)) := (((Below.refl _ _).alloc (Nat.le_refl _) _).alloc (by simp) _).alloc (by simp; omega) _
 have f4 : Ord (((w.alloc (.cells (wd A) 52)).alloc (.cells #[.int .u64 0, .int .u64 0, .int .u64 0, .int .u64 0] 54)).alloc (.cells #[.int .u64 0, .int .u64 0, .int .u64 0, .int .u64 0] 52)) := ((hF.alloc _).alloc _).alloc _
 have hz := hF.sz
 go_enter Tryd.func90, Tryd.ntmps90
 go_wp2_with (fail)
 generalize (((w.alloc (.cells (wd A) 52)).alloc (.cells #[.int .u64 0, .int .u64 0, .int .u64 0, .int .u64 0] 54)).alloc (.cells #[.int .u64 0, .int .u64 0, .int .u64 0, .int .u64 0] 52)) = w0 at *
 go_loopw [7] (fun v wr => ∃ k : Nat, k ≤ 4 ∧ v = .int .i64 k ∧ wr.heap[w.heap.size]? = some (.cells (wd A) 52 (0, 0)) ∧ wr.heap[w.heap.size + 1]? = some (.cells #[.int .u64 0, .int .u64 0, .int .u64 0, .int .u64 0] 54 (0, 0)) ∧ ((k = 0 ∧ wr.heap[w.heap.size + 1 + 1]? = some (.cells #[.int .u64 0, .int .u64 0, .int .u64 0, .int .u64 0] 52 (0, 0))) ∨ (k = 1 ∧ wr.heap[w.heap.size + 1 + 1]? = some (.cells #[.int .u64 6346243789798364141, .int .u64 0, .int .u64 0, .int .u64 0] 52 (0, 0))) ∨ (k = 2 ∧ wr.heap[w.heap.size + 1 + 1]? = some (.cells #[.int .u64 6346243789798364141, .int .u64 1503914060200516822, .int .u64 0, .int .u64 0] 52 (0, 0))) ∨ (k = 3 ∧ wr.heap[w.heap.size + 1 + 1]? = some (.cells #[.int .u64 6346243789798364141, .int .u64 1503914060200516822, .int .u64 0, .int .u64 0] 52 (0, 0))) ∨ (k = 4 ∧ wr.heap[w.heap.size + 1 + 1]? = some (.cells #[.int .u64 6346243789798364141, .int .u64 1503914060200516822, .int .u64 0, .int .u64 1152921504606846976] 52 (0, 0)))) ∧ Below w.heap.size w wr ∧ Ord wr) (fun v _ => 4 - (intOf v).toNat)
 case atStart => exact ⟨0, by omega, rfl, ra, rb, .inl ⟨rfl, rc⟩, hw, f4⟩
 case round =>
  clear ra rb rc hw f4
  obtain ⟨k, hk, rfl, ra, rb, hx, hw, f4⟩ := hrel
  rcases hx with ⟨rfl, rc⟩ | ⟨rfl, rc⟩ | ⟨rfl, rc⟩ | ⟨rfl, rc⟩ | ⟨rfl, rc⟩
  ·have hd : decide ((0 : Int) < 4) = true := by decide
   have co : wr.cell? ⟨2, 0, none⟩ = some (.int .u64 6346243789798364141) := f4.cell 0
   have eb : bits .and .u64 6346243789798364141 18446744073709551615 = 6346243789798364141 := by decide +kernel
   have q0 := (setRow_other wr (w.heap.size + 1 + 1) (w.heap.size) #[.int .u64 6346243789798364141, .int .u64 0, .int .u64 0, .int .u64 0] (by omega)).trans ra
   have q1 := (setRow_other wr (w.heap.size + 1 + 1) (w.heap.size + 1) #[.int .u64 6346243789798364141, .int .u64 0, .int .u64 0, .int .u64 0] (by omega)).trans rb
   have q2 := setRow_heap wr (w.heap.size + 1 + 1) _ #[.int .u64 6346243789798364141, .int .u64 0, .int .u64 0, .int .u64 0] _ _ rc
   have q3 := below_setRow hw (show w.heap.size ≤ w.heap.size + 1 + 1 by omega) #[.int .u64 6346243789798364141, .int .u64 0, .int .u64 0, .int .u64 0]
   have q4 := f4.setRow (show 2 < w.heap.size + 1 + 1 by omega) #[.int .u64 6346243789798364141, .int .u64 0, .int .u64 0, .int .u64 0]
   go_wp2_with (first | (refine wpList_load_cell31 rfl 40 _ rfl (2) 0 rfl _ co Tryd.underlying40 ?_) | (refine wpList_store_cell31 rfl 40 _ _ rfl (w.heap.size + 1 + 1) 0 rfl (.int .u64 6346243789798364141) (by first | rfl | (rw [← eb]; rfl)) 52 _ rc (by show 0 < 4; decide) infoW rfl ?_) | fail)
   go_roundw
   case rel => exact ⟨1, by omega, by go_num, q0, q1, .inr (.inl ⟨rfl, q2⟩), q3, q4⟩
   case measure => simp [intOf]
  ·have hd : decide ((1 : Int) < 4) = true := by decide
   have co : wr.cell? ⟨2, 1, none⟩ = some (.int .u64 1503914060200516822) := f4.cell 1
   have eb : bits .and .u64 1503914060200516822 18446744073709551615 = 1503914060200516822 := by decide +kernel
   have q0 := (setRow_other wr (w.heap.size + 1 + 1) (w.heap.size) #[.int .u64 6346243789798364141, .int .u64 1503914060200516822, .int .u64 0, .int .u64 0] (by omega)).trans ra
   have q1 := (setRow_other wr (w.heap.size + 1 + 1) (w.heap.size + 1) #[.int .u64 6346243789798364141, .int .u64 1503914060200516822, .int .u64 0, .int .u64 0] (by omega)).trans rb
   have q2 := setRow_heap wr (w.heap.size + 1 + 1) _ #[.int .u64 6346243789798364141, .int .u64 1503914060200516822, .int .u64 0, .int .u64 0] _ _ rc
   have q3 := below_setRow hw (show w.heap.size ≤ w.heap.size + 1 + 1 by omega) #[.int .u64 6346243789798364141, .int .u64 1503914060200516822, .int .u64 0, .int .u64 0]
   have q4 := f4.setRow (show 2 < w.heap.size + 1 + 1 by omega) #[.int .u64 6346243789798364141, .int .u64 1503914060200516822, .int .u64 0, .int .u64 0]
   go_wp2_with (first | (refine wpList_load_cell31 rfl 40 _ rfl (2) 1 rfl _ co Tryd.underlying40 ?_) | (refine wpList_store_cell31 rfl 40 _ _ rfl (w.heap.size + 1 + 1) 1 rfl (.int .u64 1503914060200516822) (by first | rfl | (rw [← eb]; rfl)) 52 _ rc (by show 1 < 4; decide) infoW rfl ?_) | fail)
   go_roundw
   case rel => exact ⟨2, by omega, by go_num, q0, q1, .inr (.inr (.inl ⟨rfl, q2⟩)), q3, q4⟩
   case measure => simp [intOf]
  ·have hd : decide ((2 : Int) < 4) = true := by decide
   have co : wr.cell? ⟨2, 2, none⟩ = some (.int .u64 0) := f4.cell 2
   have eb : bits .and .u64 0 18446744073709551615 = 0 := by decide +kernel
   have q0 := (setRow_other wr (w.heap.size + 1 + 1) (w.heap.size) #[.int .u64 6346243789798364141, .int .u64 1503914060200516822, .int .u64 0, .int .u64 0] (by omega)).trans ra
   have q1 := (setRow_other wr (w.heap.size + 1 + 1) (w.heap.size + 1) #[.int .u64 6346243789798364141, .int .u64 1503914060200516822, .int .u64 0, .int .u64 0] (by omega)).trans rb
   have q2 := setRow_heap wr (w.heap.size + 1 + 1) _ #[.int .u64 6346243789798364141, .int .u64 1503914060200516822, .int .u64 0, .int .u64 0] _ _ rc
   have q3 := below_setRow hw (show w.heap.size ≤ w.heap.size + 1 + 1 by omega) #[.int .u64 6346243789798364141, .int .u64 1503914060200516822, .int .u64 0, .int .u64 0]
   have q4 := f4.setRow (show 2 < w.heap.size + 1 + 1 by omega) #[.int .u64 6346243789798364141, .int .u64 1503914060200516822, .int .u64 0, .int .u64 0]
   go_wp2_with (first | (refine wpList_load_cell31 rfl 40 _ rfl (2) 2 rfl _ co Tryd.underlying40 ?_) | (refine wpList_store_cell31 rfl 40 _ _ rfl (w.heap.size + 1 + 1) 2 rfl (.int .u64 0) (by first | rfl | (rw [← eb]; rfl)) 52 _ rc (by show 2 < 4; decide) infoW rfl ?_) | fail)
   go_roundw
   case rel => exact ⟨3, by omega, by go_num, q0, q1, .inr (.inr (.inr (.inl ⟨rfl, q2⟩))), q3, q4⟩
   case measure => simp [intOf]
  ·have hd : decide ((3 : Int) < 4) = true := by decide
   have co : wr.cell? ⟨2, 3, none⟩ = some (.int .u64 1152921504606846976) := f4.cell 3
   have eb : bits .and .u64 1152921504606846976 18446744073709551615 = 1152921504606846976 := by decide +kernel
   have q0 := (setRow_other wr (w.heap.size + 1 + 1) (w.heap.size) #[.int .u64 6346243789798364141, .int .u64 1503914060200516822, .int .u64 0, .int .u64 1152921504606846976] (by omega)).trans ra
   have q1 := (setRow_other wr (w.heap.size + 1 + 1) (w.heap.size + 1) #[.int .u64 6346243789798364141, .int .u64 1503914060200516822, .int .u64 0, .int .u64 1152921504606846976] (by omega)).trans rb
   have q2 := setRow_heap wr (w.heap.size + 1 + 1) _ #[.int .u64 6346243789798364141, .int .u64 1503914060200516822, .int .u64 0, .int .u64 1152921504606846976] _ _ rc
   have q3 := below_setRow hw (show w.heap.size ≤ w.heap.size + 1 + 1 by omega) #[.int .u64 6346243789798364141, .int .u64 1503914060200516822, .int .u64 0, .int .u64 1152921504606846976]
   have q4 := f4.setRow (show 2 < w.heap.size + 1 + 1 by omega) #[.int .u64 6346243789798364141, .int .u64 1503914060200516822, .int .u64 0, .int .u64 1152921504606846976]
   go_wp2_with (first | (refine wpList_load_cell31 rfl 40 _ rfl (2) 3 rfl _ co Tryd.underlying40 ?_) | (refine wpList_store_cell31 rfl 40 _ _ rfl (w.heap.size + 1 + 1) 3 rfl (.int .u64 1152921504606846976) (by first | rfl | (rw [← eb]; rfl)) 52 _ rc (by show 3 < 4; decide) infoW rfl ?_) | fail)
   go_roundw
   case rel => exact ⟨4, by omega, by go_num, q0, q1, .inr (.inr (.inr (.inr ⟨rfl, q2⟩))), q3, q4⟩
   case measure => simp [intOf]
  ·have hd : decide ((4 : Int) < 4) = false := by decide
   replace rc : wr.heap[w.heap.size + 1 + 1]? = some (.cells (wd (1 * L19)) 52 (0, 0)) := rc
   go_wp2_with (first | (refine wpList_load_want rfl 52 _ rfl (w.heap.size) rfl 52 (wd A) (0, 0) _ ra Tryd.underlying52 rfl (wd_infoW _) ?_) | (refine wpList_load_want rfl 52 _ rfl (w.heap.size + 1 + 1) rfl 52 (wd (1 * L19)) (0, 0) _ rc Tryd.underlying52 rfl (wd_infoW _) ?_) | fail)
   refine (cP.at _).mono ?_
   rintro e w1 ⟨rfl, hb⟩
   replace ra := keep hb ra
   replace rb := keep hb rb
   replace hw := Below.after hw hb
   clear hb
   go_wp2_with (first | (refine wpList_store_row rfl 52 _ _ rfl (w.heap.size) (wd R) rfl rfl 52 _ ra (wd_infoW _) rfl (wd_one _) ?_; refine wpList_stay ?_) | fail)
   unfold WpStay
   replace rb := (setRow_other w1 (w.heap.size) (w.heap.size + 1) (wd R) (by omega)).trans rb
   replace ra := setRow_heap w1 (w.heap.size) _ (wd R) _ _ ra
   replace hw := below_setRow hw (Nat.le_refl _) (wd R)
   generalize w1.setRow (w.heap.size) (wd R) = w2 at *
   go_wp2_with (first | (refine wpList_load_want rfl 52 _ rfl (w.heap.size) rfl 52 (wd R) (0, 0) _ ra Tryd.underlying52 rfl (wd_infoW _) ?_) | (refine wpList_build_as rfl 54 _ rfl [(0, .agg (wd R))] rfl (wd R) (wd_built R) ?_) | (refine wpList_store_row rfl 54 _ _ rfl (w.heap.size + 1) (wd R) rfl rfl 54 _ rb (wd_infoS _) rfl (wd_one _) ?_) | fail)
   exact bodyPost_ret (v := .agg (wd R)) (results_cell_row Tryd.results90 _ _ (w.heap.size + 1) _ (wd R) _ _ rfl (setRow_heap _ _ _ _ _ _ rb) Tryd.underlying54 rfl (wd_infoS _)) rfl ⟨rfl, below_setRow hw (by omega) _⟩
end Go.Proofs.YtajaiiidafkijaaDoor
namespace Go.Proofs.YtajaiiidafkijaaDoor
set_option maxRecDepth 100000
open Go.RowKit Go.Sort
attribute [local go_sem] setCell_drewN alloc_drewN
theorem sub_mod {A B : Int} (hA : 0 ≤ A ∧ A < L19) (hB : 0 ≤ B ∧ B < L19) : ∃ l : Int, (l = 0 ∨ l = 1) ∧ -((A - B) / 115792089237316195423570985008687907853269984665640564039457584007913129639936) = l ∧ ((A - B) % 115792089237316195423570985008687907853269984665640564039457584007913129639936 + l * L19) % 115792089237316195423570985008687907853269984665640564039457584007913129639936 = (A - B) % L19 := by
 unfold L19 at *
 by_cases h : B ≤ A
 ·exact ⟨0, .inl rfl, by omega, by omega⟩
 ·exact ⟨1, .inr rfl, by omega, by omega⟩
theorem a_within {A l : Int} (hA : 0 ≤ A ∧ A < 115792089237316195423570985008687907853269984665640564039457584007913129639936) (hl : l = 0 ∨ l = 1) : GivesO 90 #[.agg (wd A), .int .u64 l] (.agg (wd ((A + l * L19) % 115792089237316195423570985008687907853269984665640564039457584007913129639936))) := by
 rcases hl with rfl | rfl
 ·exact within_0 hA
 ·exact within_1 hA
theorem L_lt : L19 < 115792089237316195423570985008687907853269984665640564039457584007913129639936 := by unfold L19; decide
set_option maxRecDepth 100000 in
set_option maxHeartbeats 8000000 in
theorem a_ssub {A B : Int} (hA : 0 ≤ A ∧ A < L19) (hB : 0 ≤ B ∧ B < L19) : GivesO 40 #[.agg (wd A), .agg (wd B)] (.agg (wd ((A - B) % L19))) := by
 have hL := L_lt
 obtain ⟨l, hl, e1, e2⟩ := sub_mod hA hB
 have cM := a_wminus (A := A) (B := B) ⟨hA.1, by omega⟩ ⟨hB.1, by omega⟩
 have cW := a_within (A := (A - B) % 115792089237316195423570985008687907853269984665640564039457584007913129639936) (l := l) (by omega) hl
 rw [e1] at cM
 rw [e2] at cW
 generalize (A - B) % 115792089237316195423570985008687907853269984665640564039457584007913129639936 = D at *
 generalize (A - B) % L19 = R at *
 clear e1 e2 hl hL hA hB
 intro w hF
 have rp0 : (((w.alloc (.cells (wd A) 54)).alloc (.cells (wd B) 54)).alloc (.cells #[.int .u64 0, .int .u64 0, .int .u64 0, .int .u64 0] 54)).heap[w.heap.size]? = some (.cells (wd A) 54 (0, 0)) := hp3_0 w _ _ _
 have rp1 : (((w.alloc (.cells (wd A) 54)).alloc (.cells (wd B) 54)).alloc (.cells #[.int .u64 0, .int .u64 0, .int .u64 0, .int .u64 0] 54)).heap[w.heap.size + 1]? = some (.cells (wd B) 54 (0, 0)) := hp3_1 w _ _ _
 have rp2 : (((w.alloc (.cells (wd A) 54)).alloc (.cells (wd B) 54)).alloc (.cells #[.int .u64 0, .int .u64 0, .int .u64 0, .int .u64 0] 54)).heap[w.heap.size + 1 + 1]? = some (.cells #[.int .u64 0, .int .u64 0, .int .u64 0, .int .u64 0] 54 (0, 0)) := hp3_2 w _ _ _
 have hw : Below w.heap.size w (((w.alloc (.cells (wd A) 54)).alloc (.cells (wd B) 54)).alloc (.cells #[.int .u64 0, .int .u64 0, .int .u64 0, .int .u64 0] 54)) := ((((Below.refl _ _).alloc (Nat.le_refl _) _).alloc (by simp) _).alloc (by simp; omega) _)
 have hz0 := hF.sz
 have f4 : Ord (((w.alloc (.cells (wd A) 54)).alloc (.cells (wd B) 54)).alloc (.cells #[.int .u64 0, .int .u64 0, .int .u64 0, .int .u64 0] 54)) := (((hF.alloc _).alloc _).alloc _)
 go_enter Tryd.func40, Tryd.ntmps40
 iterate 12 go_step
 generalize (((w.alloc (.cells (wd A) 54)).alloc (.cells (wd B) 54)).alloc (.cells #[.int .u64 0, .int .u64 0, .int .u64 0, .int .u64 0] 54)) = w0 at *
 go_wp2_with (first | (refine wpList_load_want rfl 54 _ rfl (w.heap.size) rfl 54 (wd A) (0, 0) _ rp0 Tryd.underlying54 rfl (wd_infoS A) ?_) | (refine wpList_load_want rfl 54 _ rfl (w.heap.size + 1) rfl 54 (wd B) (0, 0) _ rp1 Tryd.underlying54 rfl (wd_infoS B) ?_) | (refine wpList_load_want rfl 54 _ rfl (w.heap.size + 1 + 1) rfl 54 #[.int .u64 0, .int .u64 0, .int .u64 0, .int .u64 0] (0, 0) _ rp2 Tryd.underlying54 rfl (by kernel_rfl) ?_) | (refine wpList_load_part rfl 52 _ rfl (w.heap.size) 0 rfl 54 (wd A) (0, 0) (wd A) _ rp0 (wd_part _) Tryd.underlying52 rfl (wd_infoW _) ?_) | (refine wpList_load_part rfl 52 _ rfl (w.heap.size + 1) 0 rfl 54 (wd B) (0, 0) (wd B) _ rp1 (wd_part _) Tryd.underlying52 rfl (wd_infoW _) ?_) | (refine wpList_load_part rfl 52 _ rfl (w.heap.size + 1 + 1) 0 rfl 54 #[.int .u64 0, .int .u64 0, .int .u64 0, .int .u64 0] (0, 0) #[.int .u64 0, .int .u64 0, .int .u64 0, .int .u64 0] _ rp2 (wd_part _) Tryd.underlying52 rfl (wd_infoW _) ?_) | fail)
 refine (cM.at _).mono ?_
 rintro e w2 ⟨rfl, hb⟩
 replace rp0 := keep hb rp0
 replace rp1 := keep hb rp1
 replace rp2 := keep hb rp2
 replace hw := Below.after hw hb
 replace f4 := f4.below hb
 clear hb
 go_wp2_with (first | (refine wpList_load_want rfl 54 _ rfl (w.heap.size) rfl 54 (wd A) (0, 0) _ rp0 Tryd.underlying54 rfl (wd_infoS A) ?_) | (refine wpList_load_want rfl 54 _ rfl (w.heap.size + 1) rfl 54 (wd B) (0, 0) _ rp1 Tryd.underlying54 rfl (wd_infoS B) ?_) | (refine wpList_load_want rfl 54 _ rfl (w.heap.size + 1 + 1) rfl 54 #[.int .u64 0, .int .u64 0, .int .u64 0, .int .u64 0] (0, 0) _ rp2 Tryd.underlying54 rfl (by kernel_rfl) ?_) | (refine wpList_load_part rfl 52 _ rfl (w.heap.size) 0 rfl 54 (wd A) (0, 0) (wd A) _ rp0 (wd_part _) Tryd.underlying52 rfl (wd_infoW _) ?_) | (refine wpList_load_part rfl 52 _ rfl (w.heap.size + 1) 0 rfl 54 (wd B) (0, 0) (wd B) _ rp1 (wd_part _) Tryd.underlying52 rfl (wd_infoW _) ?_) | (refine wpList_load_part rfl 52 _ rfl (w.heap.size + 1 + 1) 0 rfl 54 #[.int .u64 0, .int .u64 0, .int .u64 0, .int .u64 0] (0, 0) #[.int .u64 0, .int .u64 0, .int .u64 0, .int .u64 0] _ rp2 (wd_part _) Tryd.underlying52 rfl (wd_infoW _) ?_) | fail)
 refine (cW.at f4).mono ?_
 rintro e w4 ⟨rfl, hb⟩
 replace rp0 := keep hb rp0
 replace rp1 := keep hb rp1
 replace rp2 := keep hb rp2
 replace hw := Below.after hw hb
 replace f4 := f4.below hb
 clear hb
 go_wp2_with (first | (refine wpList_store_row rfl 54 _ _ rfl (w.heap.size + 1 + 1) (wd R) rfl rfl 54 _ rp2 (wd_infoS R) rfl (wd_one R) ?_) | (refine wpList_load_want rfl 54 _ rfl (w.heap.size) rfl 54 (wd A) (0, 0) _ rp0 Tryd.underlying54 rfl (wd_infoS A) ?_) | (refine wpList_load_want rfl 54 _ rfl (w.heap.size + 1) rfl 54 (wd B) (0, 0) _ rp1 Tryd.underlying54 rfl (wd_infoS B) ?_) | (refine wpList_load_want rfl 54 _ rfl (w.heap.size + 1 + 1) rfl 54 #[.int .u64 0, .int .u64 0, .int .u64 0, .int .u64 0] (0, 0) _ rp2 Tryd.underlying54 rfl (by kernel_rfl) ?_) | (refine wpList_load_part rfl 52 _ rfl (w.heap.size) 0 rfl 54 (wd A) (0, 0) (wd A) _ rp0 (wd_part _) Tryd.underlying52 rfl (wd_infoW _) ?_) | (refine wpList_load_part rfl 52 _ rfl (w.heap.size + 1) 0 rfl 54 (wd B) (0, 0) (wd B) _ rp1 (wd_part _) Tryd.underlying52 rfl (wd_infoW _) ?_) | (refine wpList_load_part rfl 52 _ rfl (w.heap.size + 1 + 1) 0 rfl 54 #[.int .u64 0, .int .u64 0, .int .u64 0, .int .u64 0] (0, 0) #[.int .u64 0, .int .u64 0, .int .u64 0, .int .u64 0] _ rp2 (wd_part _) Tryd.underlying52 rfl (wd_infoW _) ?_) | fail)
 exact bodyPost_ret (v := .agg (wd R)) (results_cell_row Tryd.results40 _ _ (w.heap.size + 1 + 1) _ (wd R) _ _ rfl (setRow_heap _ _ _ _ _ _ rp2) Tryd.underlying54 rfl (wd_infoS R)) rfl ⟨rfl, below_setRow hw (by omega) _⟩
set_option maxRecDepth 100000 in
set_option maxHeartbeats 8000000 in
theorem a_sneg {A : Int} (hA : 0 ≤ A ∧ A < L19) : GivesO 44 #[.agg (wd A)] (.agg (wd (-A % L19))) := by
 have cS := a_ssub (A := 0) (B := A) (by unfold L19; decide) hA
 rw [Int.zero_sub] at cS
 generalize -A % L19 = R at *
 clear hA
 intro w hF
 have rp0 : ((w.alloc (.cells (wd A) 54)).alloc (.cells #[.int .u64 0, .int .u64 0, .int .u64 0, .int .u64 0] 54)).heap[w.heap.size]? = some (.cells (wd A) 54 (0, 0)) := hp2_0 w _ _
 have rp1 : ((w.alloc (.cells (wd A) 54)).alloc (.cells #[.int .u64 0, .int .u64 0, .int .u64 0, .int .u64 0] 54)).heap[w.heap.size + 1]? = some (.cells #[.int .u64 0, .int .u64 0, .int .u64 0, .int .u64 0] 54 (0, 0)) := hp2_1 w _ _
 have hw : Below w.heap.size w ((w.alloc (.cells (wd A) 54)).alloc (.cells #[.int .u64 0, .int .u64 0, .int .u64 0, .int .u64 0] 54)) := (((Below.refl _ _).alloc (Nat.le_refl _) _).alloc (by simp) _)
 have hz0 := hF.sz
 have f4 : Ord ((w.alloc (.cells (wd A) 54)).alloc (.cells #[.int .u64 0, .int .u64 0, .int .u64 0, .int .u64 0] 54)) := ((hF.alloc _).alloc _)
 go_enter Tryd.func44, Tryd.ntmps44
 iterate 9 go_step
 generalize ((w.alloc (.cells (wd A) 54)).alloc (.cells #[.int .u64 0, .int .u64 0, .int .u64 0, .int .u64 0] 54)) = w0 at *
 go_wp2_with (first | (refine wpList_build_as rfl 54 _ rfl [] rfl (wd 0) (by kernel_rfl) ?_) | (refine wpList_load_want rfl 54 _ rfl (w.heap.size) rfl 54 (wd A) (0, 0) _ rp0 Tryd.underlying54 rfl (wd_infoS A) ?_) | (refine wpList_load_want rfl 54 _ rfl (w.heap.size + 1) rfl 54 #[.int .u64 0, .int .u64 0, .int .u64 0, .int .u64 0] (0, 0) _ rp1 Tryd.underlying54 rfl (by kernel_rfl) ?_) | (refine wpList_load_part rfl 52 _ rfl (w.heap.size) 0 rfl 54 (wd A) (0, 0) (wd A) _ rp0 (wd_part _) Tryd.underlying52 rfl (wd_infoW _) ?_) | (refine wpList_load_part rfl 52 _ rfl (w.heap.size + 1) 0 rfl 54 #[.int .u64 0, .int .u64 0, .int .u64 0, .int .u64 0] (0, 0) #[.int .u64 0, .int .u64 0, .int .u64 0, .int .u64 0] _ rp1 (wd_part _) Tryd.underlying52 rfl (wd_infoW _) ?_) | fail)
 refine (cS.at f4).mono ?_
 rintro e w1 ⟨rfl, hb⟩
 replace rp0 := keep hb rp0
 replace rp1 := keep hb rp1
 replace hw := Below.after hw hb
 replace f4 := f4.below hb
 clear hb
 go_wp2_with (first | (refine wpList_store_row rfl 54 _ _ rfl (w.heap.size + 1) (wd R) rfl rfl 54 _ rp1 (wd_infoS R) rfl (wd_one R) ?_) | (refine wpList_load_want rfl 54 _ rfl (w.heap.size) rfl 54 (wd A) (0, 0) _ rp0 Tryd.underlying54 rfl (wd_infoS A) ?_) | (refine wpList_load_want rfl 54 _ rfl (w.heap.size + 1) rfl 54 #[.int .u64 0, .int .u64 0, .int .u64 0, .int .u64 0] (0, 0) _ rp1 Tryd.underlying54 rfl (by kernel_rfl) ?_) | (refine wpList_load_part rfl 52 _ rfl (w.heap.size) 0 rfl 54 (wd A) (0, 0) (wd A) _ rp0 (wd_part _) Tryd.underlying52 rfl (wd_infoW _) ?_) | (refine wpList_load_part rfl 52 _ rfl (w.heap.size + 1) 0 rfl 54 #[.int .u64 0, .int .u64 0, .int .u64 0, .int .u64 0] (0, 0) #[.int .u64 0, .int .u64 0, .int .u64 0, .int .u64 0] _ rp1 (wd_part _) Tryd.underlying52 rfl (wd_infoW _) ?_) | fail)
 exact bodyPost_ret (v := .agg (wd R)) (results_cell_row Tryd.results44 _ _ (w.heap.size + 1) _ (wd R) _ _ rfl (setRow_heap _ _ _ _ _ _ rp1) Tryd.underlying54 rfl (wd_infoS R)) rfl ⟨rfl, below_setRow hw (by omega) _⟩
set_option maxRecDepth 100000 in
set_option maxHeartbeats 8000000 in
theorem a_sadd {A B : Int} (hA : 0 ≤ A ∧ A < L19) (hB : 0 ≤ B ∧ B < L19) : GivesO 38 #[.agg (wd A), .agg (wd B)] (.agg (wd ((A + B) % L19))) := by
 have cN := a_sneg hB
 have cS := a_ssub (A := A) (B := -B % L19) hA (by unfold L19; omega)
 rw [show (A - -B % L19) % L19 = (A + B) % L19 by unfold L19; omega] at cS
 generalize -B % L19 = Ng at *
 generalize (A + B) % L19 = R at *
 clear hA hB
 intro w hF
 go_enter Tryd.func38, Tryd.ntmps38
 go_wp2
 have rp0 : (((w.alloc (.cells (wd A) 54)).alloc (.cells (wd B) 54)).alloc (.cells #[.int .u64 0, .int .u64 0, .int .u64 0, .int .u64 0] 54)).heap[w.heap.size]? = some (.cells (wd A) 54 (0, 0)) := hp3_0 w _ _ _
 have rp1 : (((w.alloc (.cells (wd A) 54)).alloc (.cells (wd B) 54)).alloc (.cells #[.int .u64 0, .int .u64 0, .int .u64 0, .int .u64 0] 54)).heap[w.heap.size + 1]? = some (.cells (wd B) 54 (0, 0)) := hp3_1 w _ _ _
 have rp2 : (((w.alloc (.cells (wd A) 54)).alloc (.cells (wd B) 54)).alloc (.cells #[.int .u64 0, .int .u64 0, .int .u64 0, .int .u64 0] 54)).heap[w.heap.size + 1 + 1]? = some (.cells #[.int .u64 0, .int .u64 0, .int .u64 0, .int .u64 0] 54 (0, 0)) := hp3_2 w _ _ _
 have hw : Below w.heap.size w (((w.alloc (.cells (wd A) 54)).alloc (.cells (wd B) 54)).alloc (.cells #[.int .u64 0, .int .u64 0, .int .u64 0, .int .u64 0] 54)) := ((((Below.refl _ _).alloc (Nat.le_refl _) _).alloc (by simp) _).alloc (by simp; omega) _)
 have hz0 := hF.sz
 have f4 : Ord (((w.alloc (.cells (wd A) 54)).alloc (.cells (wd B) 54)).alloc (.cells #[.int .u64 0, .int .u64 0, .int .u64 0, .int .u64 0] 54)) := (((hF.alloc _).alloc _).alloc _)
 generalize (((w.alloc (.cells (wd A) 54)).alloc (.cells (wd B) 54)).alloc (.cells #[.int .u64 0, .int .u64 0, .int .u64 0, .int .u64 0] 54)) = w0 at *
 have Hrp0 := keepr rp0
 have Hrp1 := keepr rp1
 have Hrp2 := keepr rp2
 refine wp_region_tail (C := fun w' => ∃ p : Regrown, w' = grow (redrawn w0 p.d) p.os) 4 _ rfl rfl rfl (by kernel_rfl) (by kernel_rfl) (by kernel_rfl) (by kernel_rfl) ⟨⟨w0.drawn + 1, #[]⟩, by rw [grow_empty]; rfl⟩ ?_
 dsimp only [List.set, idle]
 refine wpQuiet_load_row rfl 54 _ rfl (w.heap.size) rfl 54 (wd A) (0, 0) _ Hrp0.out Tryd.underlying54 rfl (wd_infoS A) ?_
 simp only [Act.put, List.setIfInBounds_toArray, List.set_cons_succ, List.set_cons_zero]
 refine wpQuiet_load_row rfl 54 _ rfl (w.heap.size + 1) rfl 54 (wd B) (0, 0) _ Hrp1.out Tryd.underlying54 rfl (wd_infoS B) ?_
 simp only [Act.put, List.setIfInBounds_toArray, List.set_cons_succ, List.set_cons_zero]
 go_big_quiet_step (exact cN.re f4)
 go_big_quiet_step (exact cS.re f4)
 refine wpQuiet_idle rfl rfl rfl ?_
 rintro _ ⟨p, rfl⟩
 have hb := below_regrown w0 p.d p.os
 generalize grow (redrawn w0 p.d) p.os = w3 at *
 replace rp0 := keep hb rp0
 replace rp1 := keep hb rp1
 replace rp2 := keep hb rp2
 replace hw := Below.after hw hb
 replace f4 := f4.below hb
 clear hb
 clear Hrp0 Hrp1 Hrp2
 go_wp2_with (first | (refine wpList_store_row rfl 54 _ _ rfl (w.heap.size + 1 + 1) (wd R) rfl rfl 54 _ rp2 (wd_infoS R) ((show _ = 4 from rfl).trans (wd_size R).symm) (wd_one R) ?_) | fail)
 exact bodyPost_ret (v := .agg (wd R)) (results_cell_row Tryd.results38 _ _ (w.heap.size + 1 + 1) _ (wd R) _ _ rfl (setRow_heap _ _ _ _ _ _ rp2) Tryd.underlying54 rfl (wd_infoS R)) rfl ⟨rfl, below_setRow hw (by omega) _⟩
end Go.Proofs.YtajaiiidafkijaaDoor

