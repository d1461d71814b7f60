import Derived.Test.YtmmlkfkpblokiaaGreatDoorQeIrb
import Derived.Test.YtmmlkfkpblokiaaGreatDoorQeUb
import Derived.Test.YtmmlkfkpblokiaaGreatDoorQeKtr
import Derived.Shelf.Unicode.DecodeSlow
import Derived.Deep.DeepBigQuietO
import Derived.Deep.CutBlock
import Derived.Deep.DeepCutAuto
import Derived.Deep.DeepMust
import Derived.BigQuiet
import Derived.Lib.ValidLaws
namespace Go.Proofs.YtmmlkfkpblokiaaGreatDoor
set_option maxRecDepth 100000
open Go Go.RowKit Go.Sort
attribute [local go_sem] setCell_drewN alloc_drewN
def slr (t : Slt) (u : Value) : Array Value := #[.int .i64 t.no, .int .i64 t.kind, .int .u64 (t.least : Int), .int .u64 (t.most : Int), u]
set_option maxRecDepth 100000 in
set_option maxHeartbeats 4000000 in
theorem r_within (n : Int) (no k l m : Int) (so : Option Addr) (sn sc : Nat) (w : World) : Calls Tryz.prog 87 #[.int .u64 n, .agg #[.int .i64 no, .int .i64 k, .int .u64 l, .int .u64 m, .slice so sn sc]] w fun e w' => e = .returned (.bool (wth n l m == 0)) ∧ Below w.heap.size w w' := by
 have hb : ∀ o, Below w.heap.size w (w.alloc o) := fun o => (Below.refl _ _).alloc (Nat.le_refl _) _
 rcases Int.lt_or_le n l with q | q
 ·have e : (wth n l m == 0) = false := by unfold wth; rw [if_pos (.inl q)]; rfl
  have hd : decide (n ≥ l) = false := by simpa using q
  rw [e]
  go_enter Tryz.func87, Tryz.ntmps87
  go_wp2
  go_ret
  exact ⟨rfl, hb _⟩
 ·have hd : decide (n ≥ l) = true := by simpa using q
  rcases Int.lt_or_le m n with q2 | q2
  ·have e : (wth n l m == 0) = false := by unfold wth; rw [if_pos (.inr q2)]; rfl
   have hd2 : decide (n ≤ m) = false := by simpa using q2
   rw [e]
   go_enter Tryz.func87, Tryz.ntmps87
   go_wp2
   go_ret
   exact ⟨rfl, hb _⟩
  ·have e : (wth n l m == 0) = true := by unfold wth; rw [if_neg (by omega)]; rfl
   have hd2 : decide (n ≤ m) = true := by simpa using q2
   rw [e]
   go_enter Tryz.func87, Tryz.ntmps87
   go_wp2
   go_ret
   exact ⟨rfl, hb _⟩
theorem infoSlt : (Tryz.prog.info? 88).map (·.size) = some 5 := by kernel_rfl
theorem wth_two (n l m : Int) : wth n l m = 0 ∨ wth n l m = 83 := by unfold wth; split; exact .inr rfl; exact .inl rfl
set_option maxRecDepth 100000 in
set_option maxHeartbeats 8000000 in
theorem r_plainN (no k l m : Int) (hk : k = 1 ∨ k = 2 ∨ k = 3) (so : Option Addr) (sn sc : Nat) (n : Nat) (da : Option Addr) (dl dc : Nat) (pa : Option Addr) (pl pc : Nat) (w : World) :
 Calls Tryz.prog 75 #[.agg #[.int .i64 no, .int .i64 k, .int .u64 l, .int .u64 m, .slice so sn sc], .agg #[.int .u64 (n : Int), .slice da dl dc, .slice pa pl pc]] w fun e w' => e = .returned (.int .i64 (if pbad false n dl pl then 84 else wth (n : Int) l m)) ∧ Below w.heap.size w w' := by
 have hb : Below w.heap.size w ((w.alloc (.cells #[.int .i64 no, .int .i64 k, .int .u64 l, .int .u64 m, .slice so sn sc] 88)).alloc (.cells #[.int .u64 (n : Int), .slice da dl dc, .slice pa pl pc] 27)) := ((Below.refl _ _).alloc (Nat.le_refl _) _).alloc (by simp) _
 have r0 := hp2_0 w (.cells #[.int .i64 no, .int .i64 k, .int .u64 l, .int .u64 m, .slice so sn sc] 88) (.cells #[.int .u64 (n : Int), .slice da dl dc, .slice pa pl pc] 27)
 have cW := r_within (n : Int) no k l m so sn sc
 obtain ⟨R, hR⟩ : ∃ R, (if pbad false n dl pl then 84 else wth (n : Int) l m) = R := ⟨_, rfl⟩
 rw [hR]
 rcases hbad : pbad false n dl pl
 ·rw [hbad, if_neg Bool.false_ne_true] at hR
  obtain rfl : pl = 0 := by
   rcases Nat.eq_zero_or_pos pl with q | q
   ·exact q
   ·simp [pbad, q] at hbad
  obtain rfl : dl = 0 := by
   rcases Nat.eq_zero_or_pos dl with q | q
   ·exact q
   ·simp [pbad, q] at hbad
  clear hbad
  rcases wth_two (n : Int) l m with hz | hz
  ·rw [hz] at cW hR
   replace cW : ∀ V, Calls Tryz.prog 87 #[.int .u64 (n : Int), .agg #[.int .i64 no, .int .i64 k, .int .u64 l, .int .u64 m, .slice so sn sc]] V fun e w' => e = .returned (.bool true) ∧ Below V.heap.size V w' := cW
   replace hR := hide hR
   clear hz
   rcases hk with rfl | rfl | rfl
   all_goals
    go_enter Tryz.func75, Tryz.ntmps75
    go_wp2_with (first | (refine wpList_load_want rfl 88 _ rfl w.heap.size rfl 88 _ (0, 0) _ r0 Tryz.underlying88 rfl infoSlt ?_) | fail)
    refine (cW _).mono ?_
    rintro e_ w1 ⟨rfl, hb1⟩
    replace hb1 := Below.after hb hb1
    go_wp2
    go_ret
    exact ⟨by rw [← hR.out]; rfl, hb1⟩
  ·rw [hz] at cW hR
   replace cW : ∀ V, Calls Tryz.prog 87 #[.int .u64 (n : Int), .agg #[.int .i64 no, .int .i64 k, .int .u64 l, .int .u64 m, .slice so sn sc]] V fun e w' => e = .returned (.bool false) ∧ Below V.heap.size V w' := cW
   replace hR := hide hR
   clear hz
   rcases hk with rfl | rfl | rfl
   all_goals
    go_enter Tryz.func75, Tryz.ntmps75
    go_wp2_with (first | (refine wpList_load_want rfl 88 _ rfl w.heap.size rfl 88 _ (0, 0) _ r0 Tryz.underlying88 rfl infoSlt ?_) | fail)
    refine (cW _).mono ?_
    rintro e_ w1 ⟨rfl, hb1⟩
    replace hb1 := Below.after hb hb1
    go_wp2
    go_ret
    exact ⟨by rw [← hR.out]; rfl, hb1⟩
 ·rw [hbad, if_pos rfl] at hR
  replace hR := hide hR
  rcases Nat.eq_zero_or_pos dl with rfl | hdp
  ·have hq : 0 < pl := by simpa [pbad] using hbad
   have hd : decide ((pl : Int) > 0) = true := by simp; omega
   clear hbad
   rcases hk with rfl | rfl | rfl
   all_goals
    go_enter Tryz.func75, Tryz.ntmps75
    go_wp2
    go_ret
    exact ⟨by rw [← hR.out]; rfl, hb⟩
  ·have hd : decide ((dl : Int) > 0) = true := by simp; omega
   clear hbad
   rcases hk with rfl | rfl | rfl
   all_goals
    go_enter Tryz.func75, Tryz.ntmps75
    go_wp2
    go_ret
    exact ⟨by rw [← hR.out]; rfl, hb⟩
set_option maxRecDepth 100000 in
set_option maxHeartbeats 8000000 in
theorem r_plainB (no k l m : Int) (hk : k = 5) (so : Option Addr) (sn sc : Nat) (n : Nat) (da : Option Addr) (dl dc : Nat) (hdl : dl < 9223372036854775808) (pa : Option Addr) (pl pc : Nat) (w : World) :
 Calls Tryz.prog 75 #[.agg #[.int .i64 no, .int .i64 k, .int .u64 l, .int .u64 m, .slice so sn sc], .agg #[.int .u64 (n : Int), .slice da dl dc, .slice pa pl pc]] w fun e w' => e = .returned (.int .i64 (if pbad true n dl pl then 84 else wth (dl : Int) l m)) ∧ Below w.heap.size w w' := by
 have hb : Below w.heap.size w ((w.alloc (.cells #[.int .i64 no, .int .i64 k, .int .u64 l, .int .u64 m, .slice so sn sc] 88)).alloc (.cells #[.int .u64 (n : Int), .slice da dl dc, .slice pa pl pc] 27)) := ((Below.refl _ _).alloc (Nat.le_refl _) _).alloc (by simp) _
 have r0 := hp2_0 w (.cells #[.int .i64 no, .int .i64 k, .int .u64 l, .int .u64 m, .slice so sn sc] 88) (.cells #[.int .u64 (n : Int), .slice da dl dc, .slice pa pl pc] 27)
 have cW := r_within (dl : Int) no k l m so sn sc
 obtain ⟨R, hR⟩ : ∃ R, (if pbad true n dl pl then 84 else wth (dl : Int) l m) = R := ⟨_, rfl⟩
 rw [hR]
 rcases hbad : pbad true n dl pl
 ·rw [hbad, if_neg Bool.false_ne_true] at hR
  obtain rfl : pl = 0 := by
   rcases Nat.eq_zero_or_pos pl with q | q
   ·exact q
   ·simp [pbad, q] at hbad
  obtain rfl : n = 0 := by
   rcases Nat.eq_zero_or_pos n with q | q
   ·exact q
   ·simp [pbad, show n ≠ 0 by omega] at hbad
  clear hbad
  rcases wth_two (dl : Int) l m with hz | hz
  ·rw [hz] at cW hR
   replace cW : ∀ V, Calls Tryz.prog 87 #[.int .u64 (dl : Int), .agg #[.int .i64 no, .int .i64 k, .int .u64 l, .int .u64 m, .slice so sn sc]] V fun e w' => e = .returned (.bool true) ∧ Below V.heap.size V w' := cW
   replace hR := hide hR
   clear hz
   subst hk
   all_goals
    go_enter Tryz.func75, Tryz.ntmps75
    go_wp2_with (first | (refine wpList_load_want rfl 88 _ rfl w.heap.size rfl 88 _ (0, 0) _ r0 Tryz.underlying88 rfl infoSlt ?_) | fail)
    refine (cW _).mono ?_
    rintro e_ w1 ⟨rfl, hb1⟩
    have c1 : w1.cell? ⟨w.heap.size, 1, none⟩ = some (.int .i64 5) := by rw [cell_of_row _ _ _ _ _ _ (keep hb1 r0)]; rfl
    replace hb1 := Below.after hb hb1
    go_wp2
    go_ret
    exact ⟨by rw [← hR.out]; rfl, hb1⟩
  ·rw [hz] at cW hR
   replace cW : ∀ V, Calls Tryz.prog 87 #[.int .u64 (dl : Int), .agg #[.int .i64 no, .int .i64 k, .int .u64 l, .int .u64 m, .slice so sn sc]] V fun e w' => e = .returned (.bool false) ∧ Below V.heap.size V w' := cW
   replace hR := hide hR
   clear hz
   subst hk
   all_goals
    go_enter Tryz.func75, Tryz.ntmps75
    go_wp2_with (first | (refine wpList_load_want rfl 88 _ rfl w.heap.size rfl 88 _ (0, 0) _ r0 Tryz.underlying88 rfl infoSlt ?_) | fail)
    refine (cW _).mono ?_
    rintro e_ w1 ⟨rfl, hb1⟩
    replace hb1 := Below.after hb hb1
    go_wp2
    go_ret
    exact ⟨by rw [← hR.out]; rfl, hb1⟩
 ·rw [hbad, if_pos rfl] at hR
  replace hR := hide hR
  rcases Nat.eq_zero_or_pos n with rfl | hnp
  ·have hq : 0 < pl := by simpa [pbad] using hbad
   have hd : decide ((pl : Int) > 0) = true := by simp; omega
   clear hbad
   subst hk
   go_enter Tryz.func75, Tryz.ntmps75
   go_wp2
   go_ret
   exact ⟨by rw [← hR.out]; rfl, hb⟩
  ·have hd : ((n : Int) == 0) = false := by simp; omega
   have hd2 : ¬ (n : Int) = 0 := by omega
   clear hbad
   subst hk
   go_enter Tryz.func75, Tryz.ntmps75
   go_wp2
   go_ret
   exact ⟨by rw [← hR.out]; rfl, hb⟩
set_option maxRecDepth 100000 in
set_option maxHeartbeats 8000000 in
theorem r_plainG (no l m : Int) (so : Option Addr) (sn sc : Nat) (n : Nat) (da : Option Addr) (dl dc : Nat) (pa : Option Addr) (pl pc : Nat) (w : World) :
 Calls Tryz.prog 75 #[.agg #[.int .i64 no, .int .i64 4, .int .u64 l, .int .u64 m, .slice so sn sc], .agg #[.int .u64 (n : Int), .slice da dl dc, .slice pa pl pc]] w fun e w' => e = .returned (.int .i64 (if pbad false n dl pl then 84 else wth (n : Int) 0 1)) ∧ Below w.heap.size w w' := by
 have hb : Below w.heap.size w ((w.alloc (.cells #[.int .i64 no, .int .i64 4, .int .u64 l, .int .u64 m, .slice so sn sc] 88)).alloc (.cells #[.int .u64 (n : Int), .slice da dl dc, .slice pa pl pc] 27)) := ((Below.refl _ _).alloc (Nat.le_refl _) _).alloc (by simp) _
 obtain ⟨R, hR⟩ : ∃ R, (if pbad false n dl pl then 84 else wth (n : Int) 0 1) = R := ⟨_, rfl⟩
 rw [hR]
 rcases hbad : pbad false n dl pl
 ·rw [hbad, if_neg Bool.false_ne_true] at hR
  obtain rfl : pl = 0 := by
   rcases Nat.eq_zero_or_pos pl with q | q
   ·exact q
   ·simp [pbad, q] at hbad
  obtain rfl : dl = 0 := by
   rcases Nat.eq_zero_or_pos dl with q | q
   ·exact q
   ·simp [pbad, q] at hbad
  clear hbad
  rcases Int.lt_or_le 1 (n : Int) with q | q
  ·have hz : wth (n : Int) 0 1 = 83 := by unfold wth; rw [if_pos (.inr q)]
   have hd : decide ((n : Int) > 1) = true := by simpa using q
   rw [hz] at hR
   replace hR := hide hR
   clear hz
   go_enter Tryz.func75, Tryz.ntmps75
   go_wp2
   go_ret
   exact ⟨by rw [← hR.out]; rfl, hb⟩
  ·have hz : wth (n : Int) 0 1 = 0 := by unfold wth; rw [if_neg (by omega)]
   have hd : decide ((n : Int) > 1) = false := by simpa using q
   rw [hz] at hR
   replace hR := hide hR
   clear hz
   go_enter Tryz.func75, Tryz.ntmps75
   go_wp2
   go_ret
   exact ⟨by rw [← hR.out]; rfl, hb⟩
 ·rw [hbad, if_pos rfl] at hR
  replace hR := hide hR
  rcases Nat.eq_zero_or_pos dl with rfl | hdp
  ·have hq : 0 < pl := by simpa [pbad] using hbad
   have hd : decide ((pl : Int) > 0) = true := by simp; omega
   clear hbad
   go_enter Tryz.func75, Tryz.ntmps75
   go_wp2
   go_ret
   exact ⟨by rw [← hR.out]; rfl, hb⟩
  ·have hd : decide ((dl : Int) > 0) = true := by simp; omega
   clear hbad
   go_enter Tryz.func75, Tryz.ntmps75
   go_wp2
   go_ret
   exact ⟨by rw [← hR.out]; rfl, hb⟩
end Go.Proofs.YtmmlkfkpblokiaaGreatDoor
namespace Go.Proofs.YtmmlkfkpblokiaaGreatDoor
set_option maxRecDepth 100000
open Go Go.RowKit Go.Sort
attribute [local go_sem] setCell_drewN alloc_drewN
/-! What utf8.Valid's fast path reads. -/
def Asc8 (d : List B) (k : Nat) : Prop := ∀ b ∈ (u8l d).take k, b.toNat < 128
theorem asc_skip {d : List B} {k : Nat} (h : Asc8 d k) : utD (d.drop k) = utD d := by
 unfold utD u8l
 rw [List.map_drop]
 exact (Lib.validD_ascii k _ h).symm
theorem asc_add8 {d : List B} {a b : Nat} (ha : Asc8 d a) (hb : Asc8 (d.drop a) b) : Asc8 d (a + b) := by
 intro x hx
 rw [List.take_add] at hx
 rcases List.mem_append.1 hx with h | h
 ·exact ha x h
 ·refine hb x ?_
  unfold u8l at h ⊢
  rw [List.map_drop]
  exact h
theorem asc_one8 {b : B} {r : List B} (h : b.toNat < 128) : Asc8 (b :: r) 1 := by
 intro x hx
 have : x = UInt8.ofBitVec b := by simpa [u8l] using hx
 rw [this]
 exact h
theorem word_of {W : World} {a : Option Addr} {n c : Nat} {d : List B} (hB : BysB W (.slice a n c) d) (h8 : 8 ≤ d.length) : ∃ A : Nat, A < 18446744073709551616 ∧ (A &&& 9259542123273814144 = 0 ↔ Asc8 d 8) ∧
 ∀ V, Below W.heap.size W V → Calls Tryz.prog 139 #[.slice a n c] V fun e w' => e = .returned (.int .u64 (A : Int)) ∧ ∃ q, w' = V.drewN q := by
 obtain ⟨b, off, rfl, hn, hb, hcell⟩ := bys_cell hB (by omega)
 match d, h8 with
 | b0 :: b1 :: b2 :: b3 :: b4 :: b5 :: b6 :: b7 :: r, _ =>
  have l0 := b0.isLt
  have l1 := b1.isLt
  have l2 := b2.isLt
  have l3 := b3.isLt
  have l4 := b4.isLt
  have l5 := b5.isLt
  have l6 := b6.isLt
  have l7 := b7.isLt
  refine ⟨b0.toNat + b1.toNat * 256 + b2.toNat * 65536 + b3.toNat * 16777216 + b4.toNat * 4294967296 + b5.toNat * 1099511627776 + b6.toNat * 281474976710656 + b7.toNat * 72057594037927936, by omega, ?_, fun V hV => ?_⟩
  ·have hm := Lib.leNat_mask [UInt8.ofBitVec b0, UInt8.ofBitVec b1, UInt8.ofBitVec b2, UInt8.ofBitVec b3, UInt8.ofBitVec b4, UInt8.ofBitVec b5, UInt8.ofBitVec b6, UInt8.ofBitVec b7]
   have e1 : Lib.leNat [UInt8.ofBitVec b0, UInt8.ofBitVec b1, UInt8.ofBitVec b2, UInt8.ofBitVec b3, UInt8.ofBitVec b4, UInt8.ofBitVec b5, UInt8.ofBitVec b6, UInt8.ofBitVec b7] = b0.toNat + b1.toNat * 256 + b2.toNat * 65536 + b3.toNat * 16777216 + b4.toNat * 4294967296 + b5.toNat * 1099511627776 + b6.toNat * 281474976710656 + b7.toNat * 72057594037927936 := by
    simp only [Lib.leNat]
    show b0.toNat + 256 * (b1.toNat + 256 * (b2.toNat + 256 * (b3.toNat + 256 * (b4.toNat + 256 * (b5.toNat + 256 * (b6.toNat + 256 * (b7.toNat + 256 * 0))))))) = _
    omega
   rw [e1] at hm
   rw [show Lib.maskN [UInt8.ofBitVec b0, UInt8.ofBitVec b1, UInt8.ofBitVec b2, UInt8.ofBitVec b3, UInt8.ofBitVec b4, UInt8.ofBitVec b5, UInt8.ofBitVec b6, UInt8.ofBitVec b7].length = 9259542123273814144 from Lib.maskN8] at hm
   rw [hm]
   exact Iff.rfl
  ·have hc := fun j hj => (hV.cell (p := ⟨b, off + j, none⟩) hb).trans (hcell j hj)
   exact a_word8 b0.toNat b1.toNat b2.toNat b3.toNat b4.toNat b5.toNat b6.toNat b7.toNat ⟨by omega, by omega, by omega, by omega, by omega, by omega, by omega, by omega⟩ b off n c V (by rw [hn]; simp) ⟨hc 0 (by simp), hc 1 (by simp), hc 2 (by simp), hc 3 (by simp), hc 4 (by simp), hc 5 (by simp), hc 6 (by simp), hc 7 (by simp)⟩
end Go.Proofs.YtmmlkfkpblokiaaGreatDoor
namespace Go.Proofs.YtmmlkfkpblokiaaGreatDoor
set_option maxRecDepth 100000
open Go Go.RowKit Go.Sort
attribute [local go_sem] setCell_drewN alloc_drewN
def Pv (W : World) (v : Value) (d : List B) : Prop := ∃ a, v = .slice a d.length d.length ∧ BysB W v d
theorem Pv.keep {W V : World} {v : Value} {d : List B} (h : Pv W v d) (hb : Below W.heap.size W V) : Pv V v d := by
 obtain ⟨a, e, hB⟩ := h
 exact ⟨a, e, hB.keep hb⟩
def dr8 (a : Option Addr) (n k : Nat) : Option Addr := if n = k then a else a.map (·.add (k * 1))
theorem bys_drop {W : World} {a : Option Addr} {d : List B} {n k m : Nat} (h : BysB W (.slice a n n) d) (hn : n = d.length) (hk : k + m = n) : BysB W (.slice (dr8 a n k) m m) (d.drop k) ∧ m = (d.drop k).length := by
 subst hn
 have := bysB_mid h (show k ≤ d.length by omega) (Nat.le_refl _) (Nat.le_refl _)
 rw [List.take_of_length_le (by rw [List.length_drop]; omega)] at this
 obtain rfl : m = d.length - k := by omega
 exact ⟨this, by rw [List.length_drop]⟩
theorem bys_full {W : World} {a : Option Addr} {c : Nat} {d : List B} (h : BysB W (.slice a d.length c) d) : BysB W (.slice a d.length d.length) d := by
 obtain ⟨⟨ao, cap, e, hl, hc, hz⟩, h2, _⟩ := h
 injection e with e1 e2 e3
 subst e1
 refine ⟨⟨a, d.length, by rw [bl_len], hl, hc, hz⟩, h2, fun a l c q hn => ?_⟩
 injection q with q1 q2 q3
 subst q1
 subst hn
 rcases Nat.eq_zero_or_pos d.length with h0 | h0
 ·omega
 ·obtain ⟨b, off, ea, _⟩ := hc 0 (by rw [bl_len]; exact h0)
  cases ea
theorem u8_get (d : List B) (j : Nat) : ((u8l d).getD j 0).toNat = (gb d j).toNat := by
 unfold u8l gb
 simp only [List.getD_eq_getElem?_getD, List.getElem?_map]
 cases d[j]? <;> rfl
theorem asc_first {d : List B} (h0 : 0 < d.length) (h : (gb d 0).toNat < 128) : Asc8 d 1 := by
 match d, h0 with
 | b :: r, _ => exact asc_one8 h
theorem u8_len (d : List B) : (u8l d).length = d.length := by unfold u8l; exact List.length_map _
theorem utD_lead {d : List B} {R : Bool} (hR : utD d = R) (h0 : 0 < d.length) {x0 x1 x2 x3 X : Nat} (e0 : (gb d 0).toNat = x0) (e1 : (gb d 1).toNat = x1) (e2 : (gb d 2).toNat = x2) (e3 : (gb d 3).toNat = x3) (eX : Lib.firstT x0 = X) (h : 128 ≤ x0) :
 R = match Lib.checkN d.length x1 x2 x3 (X % 8) (Lib.accLo (X / 16)) (Lib.accHi (X / 16)) with
  | none => false
  | some k => utD (d.drop k) := by
 have := Lib.validD_lead (u8l d) (fun e => by rw [← u8_len, e] at h0; simp at h0) (by rw [u8_get, e0]; exact h)
 rw [u8_get, u8_get, u8_get, u8_get, e0, e1, e2, e3, eX, u8_len] at this
 rw [← hR]
 unfold utD
 rw [this]
 cases Lib.checkN d.length x1 x2 x3 (X % 8) (Lib.accLo (X / 16)) (Lib.accHi (X / 16)) with
 | none => rfl
 | some k =>
  show Lib.validD _ = Lib.validD _
  unfold u8l
  rw [List.map_drop]
set_option maxRecDepth 100000 in
theorem and7b : ∀ X : Fin 256, bits .and .u8 ((X.val : Nat) : Int) 7 = ((X.val % 8 : Nat) : Int) := by decide
theorem below_drewN8 {B : Nat} {a w : World} (h : Below B a w) : ∀ q, Below B a (w.drewN q)
 | 0 => h
 | q + 1 => (below_drewN8 h q).drew
end Go.Proofs.YtmmlkfkpblokiaaGreatDoor

