import Derived.Test.YtmldmlbmfbdjoaaS0
import Derived.Test.YtmldmlbmfbdjoaaProg
import Derived.WalkKit
import Derived.WalkSpells
import Derived.WalkLawsBesides
import Derived.Lib.QuietBelow
import Derived.BigQuiet
import Derived.Deep.RegionHeld3
namespace Go.Proofs.Ytmldmlbmfbdjoaa
open Go Go.RowKit Go.Sort
attribute [local go_sem] setCell_drewN alloc_drewN

/-! Bytes as numbers. -/
def bv (a : B) : Int := (a.toNat : Int)
theorem bnd (a : B) : 0 ≤ bv a ∧ bv a < 256 := by
  have := a.isLt
  unfold bv
  omega
theorem ofInt_toNat {n : Nat} (a : BitVec n) : BitVec.ofInt n (a.toNat : Int) = a := by
  rw [BitVec.ofInt_natCast, BitVec.ofNat_toNat, BitVec.setWidth_eq]
theorem wrap8 (a : BitVec 8) : IntKind.u8.wrap (a.toNat : Int) = (a.toNat : Int) := by
  rw [IntKind.wrap_u8]; have := a.isLt; omega
theorem wrap32 (a : BitVec 32) : IntKind.u32.wrap (a.toNat : Int) = (a.toNat : Int) := by
  rw [IntKind.wrap_u32]; have := a.isLt; omega
theorem bv_nat (a : B) : (bv a).toNat = a.toNat := rfl
theorem bv_inj {a b : B} : bv a = bv b ↔ a = b := by
  constructor
  · intro h; apply BitVec.eq_of_toNat_eq; unfold bv at h; omega
  · rintro rfl; rfl
theorem xor8 (a b : B) : bits .xor .u8 (bv a) (bv b) = bv (a ^^^ b) := by
  show IntKind.u8.wrap ((BitVec.ofInt 8 a.toNat ^^^ BitVec.ofInt 8 b.toNat).toNat : Int) = _
  rw [ofInt_toNat, ofInt_toNat, wrap8]; rfl
theorem e_dbl : ∀ a : B, bits .xor .u8 (bv a * 2 % 256) (bv a / 128 * 27) = bv (dbl a) := by decide +kernel
theorem e_dbl_hi : ∀ a : B, bv a ≥ 128 → bits .xor .u8 (bv a * 2 % 256) 27 = bv (dbl a) := by decide +kernel
theorem e_dbl_lo : ∀ a : B, ¬ bv a ≥ 128 → bv a * 2 = bv (dbl a) := by decide +kernel
set_option maxHeartbeats 1000000 in
theorem a_twice (a : B) : Gives 28 #[.int .u8 (bv a)] (.int .u8 (bv (dbl a))) := by
  intro w
  have e := e_dbl a
  have hb := bnd a
  go_enter Try.func28, Try.ntmps28
  go_wp2
  go_ret
  exact ⟨rfl, Below.refl _ _⟩
set_option maxHeartbeats 1000000 in
theorem r_double (a : B) : Gives 29 #[.int .u8 (bv a)] (.int .u8 (bv (dbl a))) := by
  intro w
  have hb := bnd a
  by_cases hx : bv a ≥ 128
  · have e := e_dbl_hi a hx
    go_enter Try.func29, Try.ntmps29
    go_wp2
    go_ret
    exact ⟨rfl, Below.refl _ _⟩
  · have e := e_dbl_lo a hx
    go_enter Try.func29, Try.ntmps29
    go_wp2
    go_ret
    exact ⟨rfl, Below.refl _ _⟩

/-! Times of both. -/
theorem tmn_zero (n : Nat) : ∀ a, tmn n a 0#8 = 0#8 := by
  induction n with
  | zero => intro a; rfl
  | succ n ih => intro a; simp [tmn, ih]
theorem tm_eight (a b : B) : tmn 9 a b = tmn 8 a b := by
  have h : ∀ n a b, tmn (n + 1) a b = tmn n a b ^^^ (if b.getLsbD n then (Nat.repeat dbl n a) else 0#8) := by
    intro n
    induction n with
    | zero => intro a b; simp [tmn, Nat.repeat]
    | succ n ih =>
      intro a b
      rw [tmn, ih, tmn]
      have e : ∀ (n : Nat) (a : B), Nat.repeat dbl n (dbl a) = Nat.repeat dbl (n + 1) a := by
        intro n
        induction n with
        | zero => intro a; rfl
        | succ n ih => intro a; rw [Nat.repeat, ih]; rfl
      rw [e, BitVec.getLsbD_ushiftRight, Nat.add_comm 1 n, BitVec.xor_assoc]
  rw [h 8 a b]
  simp
theorem tm_step (a b : B) : tm a b = (if b.getLsbD 0 then a else 0#8) ^^^ tm (dbl a) (b >>> 1) := by
  rw [tm, ← tm_eight, tmn, tm]
theorem low_and : ∀ b : B, bits .and .u8 (bv b) 1 = if b.getLsbD 0 then 1 else 0 := by decide +kernel
theorem low_mod : ∀ b : B, bv b % 2 = if b.getLsbD 0 then 1 else 0 := by decide +kernel
theorem half_of (b : B) : bv b / 2 = bv (b >>> 1) := by
  unfold bv
  rw [BitVec.toNat_ushiftRight, Nat.shiftRight_eq_div_pow]; rfl
theorem bv_pos {q : B} (h : q ≠ 0#8) : 0 < bv q := by
  have : q.toNat ≠ 0 := fun e => h (BitVec.eq_of_toNat_eq (by simpa using e))
  unfold bv; omega
set_option maxHeartbeats 1000000 in
theorem a_times (a b : B) : Gives 9 #[.int .u8 (bv a), .int .u8 (bv b)] (.int .u8 (bv (tm a b))) := by
  intro w
  obtain ⟨T, hT⟩ : ∃ T, T = tm a b := ⟨_, rfl⟩
  rw [← hT]
  replace hT := hide hT
  go_enter Try.func9, Try.ntmps9
  go_wp2_with (fail)
  go_loopw [0, 1, 5] (fun x y z wr => ∃ p q r : B, x = .int .u8 (bv p) ∧ y = .int .u8 (bv q) ∧ z = .int .u8 (bv r) ∧ Hid (T = r ^^^ tm p q) ∧ Below w.heap.size w wr) (fun _ y _ _ => (intOf y).toNat)
  case atStart => exact ⟨a, b, 0#8, rfl, rfl, rfl, hide (by rw [hT.out]; simp), Below.refl _ _⟩
  case round =>
    clear hT
    obtain ⟨p, q, r, rfl, rfl, rfl, hT, hw⟩ := hrel
    by_cases hq : q = 0#8
    · obtain rfl : r = T := by rw [hT.out, hq, tm_zero]; simp
      have e0 : bv q = 0 := by rw [hq]; rfl
      clear hT hq
      go_wp2
      go_ret
      exact ⟨rfl, hw⟩
    · have c := a_twice p
      have h0 := bv_pos hq
      have hlow := low_and q
      have hha := half_of q
      have hx := xor8 r p
      have bq := bnd q
      have br := bnd r
      have bp := bnd p
      have hst := hide (tm_step p q)
      by_cases hb : q.getLsbD 0
      · rw [if_pos hb] at hst hlow
        replace hT : Hid (T = (r ^^^ p) ^^^ tm (dbl p) (q >>> 1)) := hide (by rw [hT.out, hst.out, BitVec.xor_assoc])
        clear hst hb hq
        go_wp2_with (fail)
        refine (c.at _).mono ?_
        rintro e w1 ⟨rfl, hb⟩
        go_wp2
        go_roundw
        case rel => exact ⟨dbl p, q >>> 1, r ^^^ p, rfl, rfl, rfl, hT, Below.after hw hb⟩
        case measure => simp [intOf]; omega
      · rw [if_neg hb] at hst hlow
        replace hT : Hid (T = r ^^^ tm (dbl p) (q >>> 1)) := hide (by rw [hT.out, hst.out, BitVec.zero_xor])
        clear hst hb hq hx
        go_wp2_with (fail)
        refine (c.at _).mono ?_
        rintro e w1 ⟨rfl, hb⟩
        go_wp2
        go_roundw
        case rel => exact ⟨dbl p, q >>> 1, r, rfl, rfl, rfl, hT, Below.after hw hb⟩
        case measure => simp [intOf]; omega
set_option maxHeartbeats 1000000 in
theorem r_times (a b : B) : Gives 10 #[.int .u8 (bv a), .int .u8 (bv b)] (.int .u8 (bv (tm a b))) := by
  intro w
  obtain ⟨T, hT⟩ : ∃ T, T = tm a b := ⟨_, rfl⟩
  rw [← hT]
  replace hT := hide hT
  go_enter Try.func10, Try.ntmps10
  go_wp2_with (fail)
  go_loopw [0, 1, 5, 6] (fun x y z i wr => ∃ (p q r : B) (k : Nat), k ≤ 8 ∧ i = .int .i64 k ∧ x = .int .u8 (bv p) ∧ y = .int .u8 (bv q) ∧ z = .int .u8 (bv r) ∧ Hid (T = r ^^^ tmn (8 - k) p q) ∧ Below w.heap.size w wr) (fun _ _ _ i _ => 8 - (intOf i).toNat)
  case atStart => exact ⟨a, b, 0#8, 0, by omega, rfl, rfl, rfl, rfl, hide (by rw [hT.out]; simp [tm]), Below.refl _ _⟩
  case round =>
    clear hT
    obtain ⟨p, q, r, k, hk, rfl, rfl, rfl, rfl, hT, hw⟩ := hrel
    by_cases hq : k = 8
    · obtain rfl : r = T := by rw [hT.out, hq]; simp [tmn]
      subst hq
      clear hT
      have hd : decide (((8 : Nat) : Int) < 8) = false := by decide
      go_wp2
      go_ret
      exact ⟨rfl, hw⟩
    · have hd : decide ((k : Int) < 8) = true := by simp; omega
      have c := r_double p
      have hlow := low_mod q
      have hha := half_of q
      have hx := xor8 r p
      have bq := bnd q
      have br := bnd r
      have bp := bnd p
      have hst : Hid (tmn (8 - k) p q = (if q.getLsbD 0 then p else 0#8) ^^^ tmn (8 - (k + 1)) (dbl p) (q >>> 1)) := hide (by rw [show 8 - k = (8 - (k + 1)) + 1 by omega, tmn])
      by_cases hb : q.getLsbD 0
      · rw [if_pos hb] at hst hlow
        replace hT : Hid (T = (r ^^^ p) ^^^ tmn (8 - (k + 1)) (dbl p) (q >>> 1)) := hide (by rw [hT.out, hst.out, BitVec.xor_assoc])
        clear hst hb
        go_wp2_with (fail)
        refine (c.at _).mono ?_
        rintro e w1 ⟨rfl, hb⟩
        go_wp2
        go_roundw
        case rel => exact ⟨dbl p, q >>> 1, r ^^^ p, k + 1, by omega, by go_num, rfl, rfl, rfl, hT, Below.after hw hb⟩
        case measure => simp [intOf]; omega
      · rw [if_neg hb] at hst hlow
        replace hT : Hid (T = r ^^^ tmn (8 - (k + 1)) (dbl p) (q >>> 1)) := hide (by rw [hT.out, hst.out, BitVec.zero_xor])
        clear hst hb hx
        go_wp2_with (fail)
        refine (c.at _).mono ?_
        rintro e w1 ⟨rfl, hb⟩
        go_wp2
        go_roundw
        case rel => exact ⟨dbl p, q >>> 1, r, k + 1, by omega, by go_num, rfl, rfl, rfl, hT, Below.after hw hb⟩
        case measure => simp [intOf]; omega
end Go.Proofs.Ytmldmlbmfbdjoaa

namespace Go.Proofs.Ytmldmlbmfbdjoaa
open Go Go.RowKit Go.Sort
attribute [local go_sem] setCell_drewN alloc_drewN


/-! Rows of bytes. -/
def bl (l : List B) : List Int := l.map bv
theorem bl_len (l : List B) : (bl l).length = l.length := by simp [bl]
theorem bl_get (l : List B) (j : Nat) : (bl l).getD j 0 = bv (l.getD j 0#8) := by
  simp only [bl, List.getD_eq_getElem?_getD, List.getElem?_map]
  cases l[j]? <;> rfl
theorem bl_set (l : List B) (j : Nat) (z : B) : (bl l).set j (bv z) = bl (l.set j z) := by
  simp [bl, List.map_set]
theorem bl_zr (n : Nat) : bl (List.replicate n 0#8) = zr n := by
  simp only [bl, zr, List.map_replicate]; rfl
theorem bl_bnd (l : List B) : ∀ z ∈ bl l, 0 ≤ z ∧ z < 256 := by
  intro z h
  obtain ⟨b, _, rfl⟩ := List.mem_map.1 h
  exact bnd b
theorem brow_cell {W : World} {g : Nat} {l : List B} {t : TypeId} (hg : W.heap[g]? = some (.cells (irow .u8 (bl l)) t (0, 0))) {j : Nat} (hj : j < l.length) : W.cell? ⟨g, j, none⟩ = some (.int .u8 (bv (l.getD j 0#8))) := by
  rw [← bl_get]; exact irow_cell hg (by rw [bl_len]; exact hj)
theorem brow_set {W : World} {g : Nat} {l : List B} {t : TypeId} (hg : W.heap[g]? = some (.cells (irow .u8 (bl l)) t (0, 0))) (j : Nat) (z : B) : (W.setCell ⟨g, j, none⟩ (.int .u8 (bv z))).heap[g]? = some (.cells (irow .u8 (bl (l.set j z))) t (0, 0)) := by
  rw [← bl_set]; exact irow_set hg j (bv z)
theorem brow_at (l : List B) (j : Nat) (hj : j < l.length) : (irow .u8 (bl l))[j]? = some (.int .u8 (bv (l.getD j 0#8))) := by
  rw [← bl_get]; exact irow_get .u8 _ j (by rw [bl_len]; exact hj)
theorem brow_put (l : List B) (j : Nat) (z : B) : (irow .u8 (bl l)).setIfInBounds j (.int .u8 (bv z)) = irow .u8 (bl (l.set j z)) := by
  simp [irow, bl, List.map_set]
theorem pt_zero (W : Nat → B) (n : Nat) : pt W n 0 = List.replicate n 0#8 := by
  apply List.ext_getElem (by simp [pt])
  intro i h1 h2
  simp [pt]
theorem zr_pt (W : Nat → B) (n : Nat) : zr n = bl (pt W n 0) := by rw [pt_zero, bl_zr]
theorem z256 (W : World) : (Instr.alloc 55 true (.tuple #[])).run Try.prog W = .ok (.pointer (some ⟨W.heap.size, 0, none⟩)) (W.alloc (.cells (irow .u8 (zr 256)) 55)) := by kernel_rfl
theorem info256 (l : List B) (h : l.length = 256) : (Try.prog.info? 55).map (·.size) = some (irow .u8 (bl l)).size := by
  rw [irow_size, bl_len, h]; kernel_rfl
theorem fit256 (l m : List B) (h : l.length = 256) (h2 : m.length = 256) : (irow .u8 (bl l)).size = (irow .u8 (bl m)).size := by
  rw [irow_size, irow_size, bl_len, bl_len, h, h2]
/-- An array's element by its place. -/
theorem index_row {t e : TypeId} {n : Nat} {kk ik : IntKind} {i0 : TypeInfo} (ht : Try.prog.underlying t = some (.array n e)) (hu : Try.prog.underlying e = some (.int kk)) (hi : Try.prog.info? e = some i0) (hs : ∀ W, (sizeOf e).run Try.prog W = .ok 1 W) (l : List Int) (hl : l.length = n) (j : Nat) (hj : j < n) (W : World) :
    (Instr.index t (.agg (irow kk l)) (.int ik (j : Int))).run Try.prog W = .ok (.int kk (l.getD j 0)) W := by
  have hp := run_part_int (P := Try.prog) W hu hi l j (by omega)
  have e : l.getD j 0 = l[j]'(by omega) := by simp [List.getD_eq_getElem?_getD, List.getElem?_eq_getElem (show j < l.length by omega)]
  rw [e]
  unfold Instr.index
  have h2 : (0 : Int) ≤ (j : Int) ∧ (j : Int) < ((n : Nat) : Int) := by omega
  simp only [asIntOf, Sem.run_bind, Sem.run_pure, Result.andThen_ok, run_underlying ht W, if_pos h2, hs, Int.toNat_natCast, Nat.mul_one]
  exact hp
theorem index256 (l : List B) (hl : l.length = 256) (j : Nat) (hj : j < 256) (W : World) : (Instr.index 55 (.agg (irow .u8 (bl l))) (.int .i64 (j : Int))).run Try.prog W = .ok (.int .u8 (bv (l.getD j 0#8))) W := by
  obtain ⟨i0, hi⟩ : ∃ i, Try.prog.info? 5 = some i := ⟨_, rfl⟩
  rw [← bl_get]
  exact index_row Try.underlying55 Try.underlying5 hi (fun W => by kernel_rfl) (bl l) (by rw [bl_len, hl]) j hj W

set_option maxRecDepth 100000 in
set_option maxHeartbeats 4000000 in
theorem a_inverses : Gives 51 #[] (.agg (irow .u8 (bl (pt iv 256 256)))) := by
  intro w
  have hz : ∀ W : World, (Instr.alloc 55 true (.tuple #[])).run Try.prog W = .ok (.pointer (some ⟨W.heap.size, 0, none⟩)) (W.alloc (.cells (irow .u8 (bl (pt iv 256 0))) 55)) := by rw [← zr_pt]; exact z256
  have R0 := hp3_0 w (.cells (irow .u8 (bl (pt iv 256 0))) 55) (.cells (irow .u8 (bl (pt pw 256 1))) 55) (.cells (irow .u8 (bl (pt iv 256 0))) 55)
  have R1 := hp3_1 w (.cells (irow .u8 (bl (pt iv 256 0))) 55) (.cells (irow .u8 (bl (pt pw 256 1))) 55) (.cells (irow .u8 (bl (pt iv 256 0))) 55)
  have R2 := hp3_2 w (.cells (irow .u8 (bl (pt iv 256 0))) 55) (.cells (irow .u8 (bl (pt pw 256 1))) 55) (.cells (irow .u8 (bl (pt iv 256 0))) 55)
  have HW : Below w.heap.size w (((w.alloc (.cells (irow .u8 (bl (pt iv 256 0))) 55)).alloc (.cells (irow .u8 (bl (pt pw 256 1))) 55)).alloc (.cells (irow .u8 (bl (pt iv 256 0))) 55)) := ((((Below.refl _ _).alloc (Nat.le_refl _) _).alloc (by simp) _).alloc (by simp; omega) _)

  have hc0 := brow_at (pt iv 256 0) 0 (by rw [pt_len]; omega)
  have e1 : ((irow .u8 (bl (pt iv 256 0)))).setIfInBounds 0 (.int .u8 1) = (irow .u8 (bl (pt pw 256 1))) := by
    have := brow_put (pt iv 256 0) 0 (pw 0)
    rw [show pt iv 256 0 = pt pw 256 0 by rw [pt_zero, pt_zero], pt_set pw 256 0 (by omega), pw_zero] at this
    rw [← this, show pt iv 256 0 = pt pw 256 0 by rw [pt_zero, pt_zero]]; rfl
  go_enter Try.func51, Try.ntmps51
  go_wp2_with (first | (refine wpList_alloc rfl 55 rfl (irow .u8 (bl (pt iv 256 0))) hz ?_) | fail)
  clear hz hc0 e1
  generalize (((w.alloc (.cells (irow .u8 (bl (pt iv 256 0))) 55)).alloc (.cells (irow .u8 (bl (pt pw 256 1))) 55)).alloc (.cells (irow .u8 (bl (pt iv 256 0))) 55)) = w0 at *
  go_loopw [7] (fun i wr => ∃ k : Nat, k ≤ 255 ∧ i = .int .i64 k ∧ wr.heap[w.heap.size]? = some (.cells (irow .u8 (bl (pt iv 256 0))) 55 (0, 0)) ∧ wr.heap[w.heap.size + 1]? = some (.cells (irow .u8 (bl (pt pw 256 (k + 1)))) 55 (0, 0)) ∧ wr.heap[w.heap.size + 1 + 1]? = some (.cells (irow .u8 (bl (pt iv 256 0))) 55 (0, 0)) ∧ Below w.heap.size w wr) (fun i _ => 255 - (intOf i).toNat)
  case atStart => exact ⟨0, by omega, rfl, R0, R1, R2, HW⟩
  case round =>
    clear R0 R1 R2 HW
    obtain ⟨k, hk, rfl, r0, r1, r2, hw⟩ := hrel
    by_cases hlt : k < 255
    · have hd : decide ((k : Int) < 255) = true := by simp; omega
      have c0 := brow_cell r1 (j := k) (by rw [pt_len]; omega)
      rw [pt_get pw 256 (k + 1) (by omega) (by omega)] at c0
      have ct := a_twice (pw k)
      have hx := xor8 (pw k) (dbl (pw k))
      have hset := hide (pt_set pw 256 (k + 1) (by omega))
      rw [pw_succ k hlt] at hset
      have b0 := bnd (pw k)
      go_wp2_with (fail)
      have k0 : ∀ p : Regrown, (grow (redrawn wr p.d) p.os).cell? ⟨w.heap.size + 1, k, none⟩ = some (.int .u8 (bv (pw k))) := fun p => cell_regrown (c0) p.d p.os
      refine wp_region_tail (C := fun w' => ∃ p : Regrown, w' = grow (redrawn wr p.d) p.os) 11 _ rfl rfl rfl (by kernel_rfl) (by kernel_rfl) (by kernel_rfl) (by kernel_rfl) ⟨⟨wr.drawn + 1, #[]⟩, by rw [grow_empty]; rfl⟩ ?_
      dsimp only [List.set, idle]
      go_big_quiet_step (fail)
      go_big_quiet_step (fail)
      go_big_quiet_step (fail)
      go_big_quiet_step (fail)
      go_big_quiet_step (fail)
      go_big_quiet_step (fail)
      go_big_quiet_step (fail)
      go_big_quiet_step (fail)
      go_big_quiet_step (exact ct.re)
      go_big_quiet_step (fail)
      go_big_quiet_step (fail)
      refine wpQuiet_idle rfl rfl rfl ?_
      rintro _ ⟨p, rfl⟩
      have hb := below_regrown wr p.d p.os
      generalize grow (redrawn wr p.d) p.os = w1 at *
      clear k0
      replace r0 := keep hb r0
      replace r1 := keep hb r1
      replace r2 := keep hb r2
      replace hw := Below.after hw hb
      clear hb

      have c1 := brow_cell r1 (j := k + 1) (by rw [pt_len]; omega)
      have hf := row_frozen r1 (k + 1)
      clear c0 ct
      go_wp2
      refine ⟨⟨k + 1, by omega, by go_num, heap_other r0 (by omega), by rw [← hset.out]; exact brow_set r1 (k + 1) _, heap_other r2 (by omega), hw.setCell (show w.heap.size ≤ w.heap.size + 1 by omega) _⟩, by simp [intOf]; omega⟩
    · obtain rfl : k = 255 := by omega
      have hd : decide ((255 : Int) < 255) = false := by decide
      have hin := info256 (pt pw 256 256) (pt_len _ _ _)
      clear hk hlt
      go_wp2_with (first | (refine wpList_load_want rfl 55 _ rfl (w.heap.size + 1) rfl 55 (irow .u8 (bl (pt pw 256 256))) (0, 0) _ r1 Try.underlying55 rfl hin ?_) | fail)
      go_loopw [23] (fun i wr => ∃ k : Nat, k ≤ 256 ∧ i = .int .i64 k ∧ wr.heap[w.heap.size]? = some (.cells (irow .u8 (bl (pt iv 256 0))) 55 (0, 0)) ∧ wr.heap[w.heap.size + 1]? = some (.cells (irow .u8 (bl (pt pw 256 256))) 55 (0, 0)) ∧ wr.heap[w.heap.size + 1 + 1]? = some (.cells (irow .u8 (bl (ou k))) 55 (0, 0)) ∧ Below w.heap.size w wr) (fun i _ => 256 - (intOf i).toNat)
      case atStart => exact ⟨0, by omega, rfl, r0, r1, by rw [pt_zero] at r2; exact r2, hw⟩
      case round =>
        clear r0 r1 r2 hw hd hin
        obtain ⟨k, hk, rfl, r0, r1, r2, hw⟩ := hrel
        by_cases hlt : k < 256
        · have hd : decide ((k : Int) < 256) = true := by simp; omega
          have hix := index256 (pt pw 256 256) (pt_len _ _ _) k hlt wr
          rw [pt_get pw 256 256 (by omega) (by omega)] at hix
          have c0 := brow_cell r1 (j := 255 - k) (by rw [pt_len]; omega)
          rw [pt_get pw 256 256 (by omega) (by omega)] at c0
          have hp := bnd (pw k)
          have e5 : (255 - (k : Int)).toNat = 255 - k := by omega
          have e6 := bv_nat (pw k)
          have c1 := brow_cell r2 (j := (pw k).toNat) (by rw [ou, fil_len]; exact (pw k).isLt)
          have hf := row_frozen r2 (pw k).toNat
          go_wp2
          refine ⟨⟨k + 1, by omega, by go_num, heap_other r0 (by omega), heap_other r1 (by omega), brow_set r2 _ _, hw.setCell (show w.heap.size ≤ w.heap.size + 1 + 1 by omega) _⟩, by simp [intOf]; omega⟩
        · obtain rfl : k = 256 := by omega
          have hd : decide ((256 : Int) < 256) = false := by decide
          rw [ou_all] at r2
          have hin := info256 (pt iv 256 256) (pt_len _ _ _)
          have hfi := fit256 (pt iv 256 0) (pt iv 256 256) (pt_len _ _ _) (pt_len _ _ _)
          clear hk hlt
          go_wp2_with (first | (refine wpList_load_want rfl 55 _ rfl (w.heap.size + 1 + 1) rfl 55 (irow .u8 (bl (pt iv 256 256))) (0, 0) _ r2 Try.underlying55 rfl hin ?_) | (refine wpList_store_row rfl 55 _ _ rfl (w.heap.size) (irow .u8 (bl (pt iv 256 256))) rfl rfl 55 _ r0 hin hfi (irow_one _ _) ?_) | fail)
          replace r0 := setRow_heap wr (w.heap.size) _ (irow .u8 (bl (pt iv 256 256))) _ _ r0
          replace hw := below_setRow hw (Nat.le_refl _) (irow .u8 (bl (pt iv 256 256)))
          generalize wr.setRow (w.heap.size) (irow .u8 (bl (pt iv 256 256))) = w9 at *
          exact bodyPost_ret (v := .agg (irow .u8 (bl (pt iv 256 256)))) (results_cell_row Try.results51 _ _ (w.heap.size) _ _ _ _ rfl r0 Try.underlying55 rfl hin) rfl ⟨rfl, hw⟩

end Go.Proofs.Ytmldmlbmfbdjoaa


namespace Go.Proofs.Ytmldmlbmfbdjoaa
open Go Go.RowKit Go.Sort
attribute [local go_sem] setCell_drewN alloc_drewN

theorem e_rot4 : ∀ y : B, bits .or .u8 (bv y * 16 % 256) (bv y / 16) = bv (y.rotateLeft 4) := by decide +kernel
set_option maxHeartbeats 1000000 in
theorem a_rot4 (y : B) : Gives 61 #[.int .u8 (bv y), .int .i64 (-4)] (.int .u8 (bv (y.rotateLeft 4))) := by
  intro w
  have ha : bits .and .u64 (IntKind.u64.wrap (-4)) 7 = 4 := by decide +kernel
  have hb := bnd y
  have e := hide (e_rot4 y)
  generalize bv (y.rotateLeft 4) = z at *
  go_enter Try.func61, Try.ntmps61
  go_wp2_with (simp only [ha])
  go_ret
  obtain rfl := e.out
  exact ⟨rfl, Below.refl _ _⟩
theorem e_rot5 : ∀ y : B, bits .or .u8 (bv y * 8 % 256) (bv y / 32) = bv (y.rotateLeft 3) := by decide +kernel
set_option maxHeartbeats 1000000 in
theorem a_rot5 (y : B) : Gives 61 #[.int .u8 (bv y), .int .i64 (-5)] (.int .u8 (bv (y.rotateLeft 3))) := by
  intro w
  have ha : bits .and .u64 (IntKind.u64.wrap (-5)) 7 = 3 := by decide +kernel
  have hb := bnd y
  have e := hide (e_rot5 y)
  generalize bv (y.rotateLeft 3) = z at *
  go_enter Try.func61, Try.ntmps61
  go_wp2_with (simp only [ha])
  go_ret
  obtain rfl := e.out
  exact ⟨rfl, Below.refl _ _⟩
theorem e_rot6 : ∀ y : B, bits .or .u8 (bv y * 4 % 256) (bv y / 64) = bv (y.rotateLeft 2) := by decide +kernel
set_option maxHeartbeats 1000000 in
theorem a_rot6 (y : B) : Gives 61 #[.int .u8 (bv y), .int .i64 (-6)] (.int .u8 (bv (y.rotateLeft 2))) := by
  intro w
  have ha : bits .and .u64 (IntKind.u64.wrap (-6)) 7 = 2 := by decide +kernel
  have hb := bnd y
  have e := hide (e_rot6 y)
  generalize bv (y.rotateLeft 2) = z at *
  go_enter Try.func61, Try.ntmps61
  go_wp2_with (simp only [ha])
  go_ret
  obtain rfl := e.out
  exact ⟨rfl, Below.refl _ _⟩
theorem e_rot7 : ∀ y : B, bits .or .u8 (bv y * 2 % 256) (bv y / 128) = bv (y.rotateLeft 1) := by decide +kernel
set_option maxHeartbeats 1000000 in
theorem a_rot7 (y : B) : Gives 61 #[.int .u8 (bv y), .int .i64 (-7)] (.int .u8 (bv (y.rotateLeft 1))) := by
  intro w
  have ha : bits .and .u64 (IntKind.u64.wrap (-7)) 7 = 1 := by decide +kernel
  have hb := bnd y
  have e := hide (e_rot7 y)
  generalize bv (y.rotateLeft 1) = z at *
  go_enter Try.func61, Try.ntmps61
  go_wp2_with (simp only [ha])
  go_ret
  obtain rfl := e.out
  exact ⟨rfl, Below.refl _ _⟩
/-- Where a walk shall stop. -/
def WpStay (p : Prop) : Prop := p
theorem wpList_stay {P : Program} {ops : Array Oper} {rest : List Oper} {a : Act} {w : World} {Q : Exit → Act → World → Prop} (h : WpStay (wpList P ops Q rest a w)) : wpList P ops Q rest a w := h
set_option maxHeartbeats 1000000 in
theorem a_spread (y : B) : Gives 52 #[.int .u8 (bv y)] (.int .u8 (bv (spr y))) := by
  intro w
  have c4 := a_rot4 y
  have c5 := a_rot5 y
  have c6 := a_rot6 y
  have c7 := a_rot7 y
  have x1 := xor8 y (y.rotateLeft 4)
  have x2 := xor8 (y ^^^ y.rotateLeft 4) (y.rotateLeft 3)
  have x3 := xor8 (y ^^^ y.rotateLeft 4 ^^^ y.rotateLeft 3) (y.rotateLeft 2)
  have x4 := xor8 (y ^^^ y.rotateLeft 4 ^^^ y.rotateLeft 3 ^^^ y.rotateLeft 2) (y.rotateLeft 1)
  have x5 : bits .xor .u8 (bv (y ^^^ y.rotateLeft 4 ^^^ y.rotateLeft 3 ^^^ y.rotateLeft 2 ^^^ y.rotateLeft 1)) 99 = bv (spr y) := xor8 _ 0x63#8
  generalize y ^^^ y.rotateLeft 4 ^^^ y.rotateLeft 3 ^^^ y.rotateLeft 2 ^^^ y.rotateLeft 1 = y5 at *
  generalize y ^^^ y.rotateLeft 4 ^^^ y.rotateLeft 3 ^^^ y.rotateLeft 2 = y4 at *
  generalize y ^^^ y.rotateLeft 4 ^^^ y.rotateLeft 3 = y3 at *
  generalize y ^^^ y.rotateLeft 4 = y2 at *
  generalize y.rotateLeft 4 = r4 at *
  generalize y.rotateLeft 3 = r3 at *
  generalize y.rotateLeft 2 = r2 at *
  generalize y.rotateLeft 1 = r1 at *
  generalize spr y = sy at *
  go_enter Try.func52, Try.ntmps52
  go_wp2_with (fail)
  refine (c4.at _).mono ?_
  rintro e w4 ⟨rfl, hb4⟩
  go_wp2_with (fail)
  refine (c5.at _).mono ?_
  rintro e w5 ⟨rfl, hb5⟩
  go_wp2_with (fail)
  refine (c6.at _).mono ?_
  rintro e w6 ⟨rfl, hb6⟩
  go_wp2_with (fail)
  refine (c7.at _).mono ?_
  rintro e w7 ⟨rfl, hb7⟩
  go_wp2
  go_ret
  exact ⟨rfl, Below.after (Below.after (Below.after hb4 hb5) hb6) hb7⟩

/-- Sub and Back of every byte, in a row. -/
def sbl : List B := pt (fun x => sb (BitVec.ofNat 8 x)) 256 256
def bkl : List B := pt (fun x => bk (BitVec.ofNat 8 x)) 256 256
theorem sbl_len : sbl.length = 256 := pt_len _ _ _
theorem bkl_len : bkl.length = 256 := pt_len _ _ _
theorem sbl_get (x : B) : sbl.getD x.toNat 0#8 = sb x := by
  rw [sbl, pt_get _ _ _ x.isLt x.isLt, BitVec.ofNat_toNat, BitVec.setWidth_eq]
theorem bkl_get (x : B) : bkl.getD x.toNat 0#8 = bk x := by
  rw [bkl, pt_get _ _ _ x.isLt x.isLt, BitVec.ofNat_toNat, BitVec.setWidth_eq]
theorem of_bv (k : Nat) (h : k < 256) : bv (BitVec.ofNat 8 k) = (k : Int) := by
  unfold bv; rw [BitVec.toNat_ofNat]; omega
set_option maxRecDepth 100000 in
set_option maxHeartbeats 4000000 in
theorem a_boxes : Gives 30 #[] (.tuple #[.agg (irow .u8 (bl (sbl))), .agg (irow .u8 (bl (bkl)))]) := by
  intro w
  have hz : ∀ W : World, (Instr.alloc 55 true (.tuple #[])).run Try.prog W = .ok (.pointer (some ⟨W.heap.size, 0, none⟩)) (W.alloc (.cells (irow .u8 (bl (pt (fun x => sb (BitVec.ofNat 8 x)) 256 0))) 55)) := by rw [← zr_pt]; exact z256
  have R0 := hp2_0 w (.cells (irow .u8 (bl (pt (fun x => sb (BitVec.ofNat 8 x)) 256 0))) 55) (.cells (irow .u8 (bl (pt (fun x => sb (BitVec.ofNat 8 x)) 256 0))) 55)
  have R1 := hp2_1 w (.cells (irow .u8 (bl (pt (fun x => sb (BitVec.ofNat 8 x)) 256 0))) 55) (.cells (irow .u8 (bl (pt (fun x => sb (BitVec.ofNat 8 x)) 256 0))) 55)
  have HW : Below w.heap.size w ((w.alloc (.cells (irow .u8 (bl (pt (fun x => sb (BitVec.ofNat 8 x)) 256 0))) 55)).alloc (.cells (irow .u8 (bl (pt (fun x => sb (BitVec.ofNat 8 x)) 256 0))) 55)) := (((Below.refl _ _).alloc (Nat.le_refl _) _).alloc (by simp) _)

  have hin := a_inverses
  go_enter Try.func30, Try.ntmps30
  go_wp2_with (first | (refine wpList_alloc rfl 55 rfl (irow .u8 (bl (pt (fun x => sb (BitVec.ofNat 8 x)) 256 0))) hz ?_) | fail)
  clear hz
  generalize ((w.alloc (.cells (irow .u8 (bl (pt (fun x => sb (BitVec.ofNat 8 x)) 256 0))) 55)).alloc (.cells (irow .u8 (bl (pt (fun x => sb (BitVec.ofNat 8 x)) 256 0))) 55)) = w0 at *
  refine (hin.at _).mono ?_
  rintro e_ w1 ⟨rfl, hb⟩
  replace R0 := keep hb R0
  replace R1 := keep hb R1
  replace HW := Below.after HW hb
  clear hb hin
  go_wp2_with (fail)
  go_loopw [6] (fun i wr => ∃ k : Nat, k ≤ 256 ∧ i = .int .i64 k ∧ wr.heap[w.heap.size]? = some (.cells (irow .u8 (bl (pt (fun x => sb (BitVec.ofNat 8 x)) 256 k))) 55 (0, 0)) ∧ wr.heap[w.heap.size + 1]? = some (.cells (irow .u8 (bl (bo k))) 55 (0, 0)) ∧ Below w.heap.size w wr) (fun i _ => 256 - (intOf i).toNat)
  case atStart => exact ⟨0, by omega, rfl, R0, by rw [pt_zero] at R1; exact R1, HW⟩
  case round =>
    clear R0 R1 HW
    obtain ⟨k, hk, rfl, r0, r1, hw⟩ := hrel
    by_cases hlt : k < 256
    · have hd : decide ((k : Int) < 256) = true := by simp; omega
      have hix := index256 (pt iv 256 256) (pt_len _ _ _) k hlt wr
      rw [pt_get iv 256 256 (by omega) (by omega)] at hix
      have cs := a_spread (iv k)
      rw [← sb_spr k hlt] at cs
      have hset := hide (pt_set (fun x => sb (BitVec.ofNat 8 x)) 256 k hlt)
      have e6 := bv_nat (sb (BitVec.ofNat 8 k))
      have b6 := bnd (sb (BitVec.ofNat 8 k))
      have ek := of_bv k hlt
      go_wp2_with (fail)
      refine (cs.at _).mono ?_
      rintro e_ w1 ⟨rfl, hb⟩
      replace r0 := keep hb r0
      replace r1 := keep hb r1
      replace hw := Below.after hw hb
      clear hb cs hix
      have c0 := brow_cell r0 (j := k) (by rw [pt_len]; exact hlt)
      have hf0 := row_frozen r0 k
      have hn1 := heap_other (j := k) (v := .int .u8 (bv (sb (BitVec.ofNat 8 k)))) r1 (show w.heap.size + 1 ≠ w.heap.size by omega)
      have c1 := brow_cell hn1 (j := (sb (BitVec.ofNat 8 k)).toNat) (by rw [bo, fil_len]; exact (sb (BitVec.ofNat 8 k)).isLt)
      have hf1 := row_frozen hn1 (sb (BitVec.ofNat 8 k)).toNat
      replace hn1 := hide hn1
      go_wp2
      refine ⟨⟨k + 1, by omega, by go_num, heap_other (by rw [← hset.out]; exact brow_set r0 k _) (by omega), ?_, (hw.setCell (Nat.le_refl _) _).setCell (show w.heap.size ≤ w.heap.size + 1 by omega) _⟩, by simp [intOf]; omega⟩
      have := brow_set hn1.out (sb (BitVec.ofNat 8 k)).toNat (BitVec.ofNat 8 k)
      rw [ek] at this
      exact this
    · obtain rfl : k = 256 := by omega
      have hd : decide ((256 : Int) < 256) = false := by decide
      rw [bo_all] at r1
      replace r0 : wr.heap[w.heap.size]? = some (.cells (irow .u8 (bl (sbl))) 55 (0, 0)) := r0
      replace r1 : wr.heap[w.heap.size + 1]? = some (.cells (irow .u8 (bl (bkl))) 55 (0, 0)) := r1
      have hi0 := info256 sbl sbl_len
      have hi1 := info256 bkl bkl_len
      clear hk hlt
      go_wp2_with (fail)
      have hbd : Below wr.heap.size wr wr.drew := below_drN (Below.refl _ _) 1
      replace r0 := keep hbd r0
      replace r1 := keep hbd r1
      replace hw := Below.after hw hbd
      clear hbd
      refine wp_region_noPanic ?_
      refine wp_region_any (by kernel_rfl) ?_
      change wpAny _ _ _ _ _ _ _ (World.drew _)
      generalize wr.drew = wd at *
      refine wpAny_ready (rs := [0, 1]) (fuel := 3) (by kernel_rfl) (by simp) (AllReady.cons rfl (fun K' hK => ?_) (AllReady.cons rfl (fun K' hK => ?_) AllReady.nil))
      · rw [if_pos (by kernel_rfl)]
        simp only [List.getElem_toArray, List.getElem_cons_zero]
        refine wp_load_row 55 _ rfl (w.heap.size) rfl 55 (irow .u8 (bl (sbl))) (0, 0) _ (r0) Try.underlying55 rfl hi0 (hK _ _ ?_)
        simp only [Act.put, List.setIfInBounds_toArray, List.set_cons_succ, List.set_cons_zero]
        clear hK
        refine wpAny_ready (rs := [1, 2]) (fuel := 2) (by kernel_rfl) (by simp) (AllReady.cons rfl (fun K' hK => ?_) (AllReady.cons rfl (fun K' hK => ?_) AllReady.nil))
        · rw [if_pos (by kernel_rfl)]
          simp only [List.getElem_toArray, List.getElem_cons_succ, List.getElem_cons_zero]
          refine wp_load_row 55 _ rfl (w.heap.size + 1) rfl 55 (irow .u8 (bl (bkl))) (0, 0) _ (r1) Try.underlying55 rfl hi1 (hK _ _ ?_)
          simp only [Act.put, List.setIfInBounds_toArray, List.set_cons_succ, List.set_cons_zero]
          clear hK
          refine wpAny_ready (rs := [2]) (fuel := 1) (by kernel_rfl) (by simp) (AllReady.cons rfl (fun K' hK => ?_) AllReady.nil)
          rw [if_pos (by kernel_rfl)]
          simp only [List.getElem_toArray, List.getElem_cons_succ, List.getElem_cons_zero]
          refine wp_store_row 55 _ _ rfl (w.heap.size) (irow .u8 (bl (sbl))) rfl rfl 55 _ r0 hi0 rfl (irow_one _ _) (hK _ _ ?_)
          simp only [Act.put]
          clear hK
          replace r1 := (setRow_other wd (w.heap.size) (w.heap.size + 1) (irow .u8 (bl (sbl))) (by omega)).trans r1
          replace r0 := setRow_heap wd (w.heap.size) _ (irow .u8 (bl (sbl))) _ _ r0
          replace hw := below_setRow hw (show w.heap.size ≤ w.heap.size by omega) (irow .u8 (bl (sbl)))
          generalize wd.setRow (w.heap.size) (irow .u8 (bl (sbl))) = q1 at *
          refine wpAny_ready (rs := [3]) (fuel := 0) (by kernel_rfl) (by simp) (AllReady.cons rfl (fun K' hK => ?_) AllReady.nil)
          rw [if_pos (by kernel_rfl)]
          simp only [List.getElem_toArray, List.getElem_cons_succ, List.getElem_cons_zero]
          refine wp_store_row 55 _ _ rfl (w.heap.size + 1) (irow .u8 (bl (bkl))) rfl rfl 55 _ r1 hi1 rfl (irow_one _ _) (hK _ _ ?_)
          simp only [Act.put]
          clear hK
          replace r0 := (setRow_other q1 (w.heap.size + 1) (w.heap.size) (irow .u8 (bl (bkl))) (by omega)).trans r0
          replace r1 := setRow_heap q1 (w.heap.size + 1) _ (irow .u8 (bl (bkl))) _ _ r1
          replace hw := below_setRow hw (show w.heap.size ≤ w.heap.size + 1 by omega) (irow .u8 (bl (bkl)))
          generalize q1.setRow (w.heap.size + 1) (irow .u8 (bl (bkl))) = q2 at *
          refine wpAny_done (by kernel_rfl) ?_ _
          refine NoPanic.normal ?_
          go_wp2_with (fail)
          exact bodyPost_ret (v := .tuple #[.agg (irow .u8 (bl (sbl))), .agg (irow .u8 (bl (bkl)))]) (results_rows2 Try.results30 _ _ (w.heap.size) (w.heap.size + 1) _ _ _ _ _ _ _ _ rfl r0 rfl r1 Try.underlying55 rfl hi0 Try.underlying55 rfl hi1) rfl ⟨rfl, hw⟩
        · rw [if_pos (by kernel_rfl)]
          simp only [List.getElem_toArray, List.getElem_cons_succ, List.getElem_cons_zero]
          refine wp_store_row 55 _ _ rfl (w.heap.size) (irow .u8 (bl (sbl))) rfl rfl 55 _ r0 hi0 rfl (irow_one _ _) (hK _ _ ?_)
          simp only [Act.put]
          clear hK
          replace r1 := (setRow_other wd (w.heap.size) (w.heap.size + 1) (irow .u8 (bl (sbl))) (by omega)).trans r1
          replace r0 := setRow_heap wd (w.heap.size) _ (irow .u8 (bl (sbl))) _ _ r0
          replace hw := below_setRow hw (show w.heap.size ≤ w.heap.size by omega) (irow .u8 (bl (sbl)))
          generalize wd.setRow (w.heap.size) (irow .u8 (bl (sbl))) = q3 at *
          refine wpAny_ready (rs := [1]) (fuel := 1) (by kernel_rfl) (by simp) (AllReady.cons rfl (fun K' hK => ?_) AllReady.nil)
          rw [if_pos (by kernel_rfl)]
          simp only [List.getElem_toArray, List.getElem_cons_succ, List.getElem_cons_zero]
          refine wp_load_row 55 _ rfl (w.heap.size + 1) rfl 55 (irow .u8 (bl (bkl))) (0, 0) _ (r1) Try.underlying55 rfl hi1 (hK _ _ ?_)
          simp only [Act.put, List.setIfInBounds_toArray, List.set_cons_succ, List.set_cons_zero]
          clear hK
          refine wpAny_ready (rs := [3]) (fuel := 0) (by kernel_rfl) (by simp) (AllReady.cons rfl (fun K' hK => ?_) AllReady.nil)
          rw [if_pos (by kernel_rfl)]
          simp only [List.getElem_toArray, List.getElem_cons_succ, List.getElem_cons_zero]
          refine wp_store_row 55 _ _ rfl (w.heap.size + 1) (irow .u8 (bl (bkl))) rfl rfl 55 _ r1 hi1 rfl (irow_one _ _) (hK _ _ ?_)
          simp only [Act.put]
          clear hK
          replace r0 := (setRow_other q3 (w.heap.size + 1) (w.heap.size) (irow .u8 (bl (bkl))) (by omega)).trans r0
          replace r1 := setRow_heap q3 (w.heap.size + 1) _ (irow .u8 (bl (bkl))) _ _ r1
          replace hw := below_setRow hw (show w.heap.size ≤ w.heap.size + 1 by omega) (irow .u8 (bl (bkl)))
          generalize q3.setRow (w.heap.size + 1) (irow .u8 (bl (bkl))) = q4 at *
          refine wpAny_done (by kernel_rfl) ?_ _
          refine NoPanic.normal ?_
          go_wp2_with (fail)
          exact bodyPost_ret (v := .tuple #[.agg (irow .u8 (bl (sbl))), .agg (irow .u8 (bl (bkl)))]) (results_rows2 Try.results30 _ _ (w.heap.size) (w.heap.size + 1) _ _ _ _ _ _ _ _ rfl r0 rfl r1 Try.underlying55 rfl hi0 Try.underlying55 rfl hi1) rfl ⟨rfl, hw⟩
      · rw [if_pos (by kernel_rfl)]
        simp only [List.getElem_toArray, List.getElem_cons_succ, List.getElem_cons_zero]
        refine wp_load_row 55 _ rfl (w.heap.size + 1) rfl 55 (irow .u8 (bl (bkl))) (0, 0) _ (r1) Try.underlying55 rfl hi1 (hK _ _ ?_)
        simp only [Act.put, List.setIfInBounds_toArray, List.set_cons_succ, List.set_cons_zero]
        clear hK
        refine wpAny_ready (rs := [0]) (fuel := 2) (by kernel_rfl) (by simp) (AllReady.cons rfl (fun K' hK => ?_) AllReady.nil)
        rw [if_pos (by kernel_rfl)]
        simp only [List.getElem_toArray, List.getElem_cons_zero]
        refine wp_load_row 55 _ rfl (w.heap.size) rfl 55 (irow .u8 (bl (sbl))) (0, 0) _ (r0) Try.underlying55 rfl hi0 (hK _ _ ?_)
        simp only [Act.put, List.setIfInBounds_toArray, List.set_cons_succ, List.set_cons_zero]
        clear hK
        refine wpAny_ready (rs := [2]) (fuel := 1) (by kernel_rfl) (by simp) (AllReady.cons rfl (fun K' hK => ?_) AllReady.nil)
        rw [if_pos (by kernel_rfl)]
        simp only [List.getElem_toArray, List.getElem_cons_succ, List.getElem_cons_zero]
        refine wp_store_row 55 _ _ rfl (w.heap.size) (irow .u8 (bl (sbl))) rfl rfl 55 _ r0 hi0 rfl (irow_one _ _) (hK _ _ ?_)
        simp only [Act.put]
        clear hK
        replace r1 := (setRow_other wd (w.heap.size) (w.heap.size + 1) (irow .u8 (bl (sbl))) (by omega)).trans r1
        replace r0 := setRow_heap wd (w.heap.size) _ (irow .u8 (bl (sbl))) _ _ r0
        replace hw := below_setRow hw (show w.heap.size ≤ w.heap.size by omega) (irow .u8 (bl (sbl)))
        generalize wd.setRow (w.heap.size) (irow .u8 (bl (sbl))) = q5 at *
        refine wpAny_ready (rs := [3]) (fuel := 0) (by kernel_rfl) (by simp) (AllReady.cons rfl (fun K' hK => ?_) AllReady.nil)
        rw [if_pos (by kernel_rfl)]
        simp only [List.getElem_toArray, List.getElem_cons_succ, List.getElem_cons_zero]
        refine wp_store_row 55 _ _ rfl (w.heap.size + 1) (irow .u8 (bl (bkl))) rfl rfl 55 _ r1 hi1 rfl (irow_one _ _) (hK _ _ ?_)
        simp only [Act.put]
        clear hK
        replace r0 := (setRow_other q5 (w.heap.size + 1) (w.heap.size) (irow .u8 (bl (bkl))) (by omega)).trans r0
        replace r1 := setRow_heap q5 (w.heap.size + 1) _ (irow .u8 (bl (bkl))) _ _ r1
        replace hw := below_setRow hw (show w.heap.size ≤ w.heap.size + 1 by omega) (irow .u8 (bl (bkl)))
        generalize q5.setRow (w.heap.size + 1) (irow .u8 (bl (bkl))) = q6 at *
        refine wpAny_done (by kernel_rfl) ?_ _
        refine NoPanic.normal ?_
        go_wp2_with (fail)
        exact bodyPost_ret (v := .tuple #[.agg (irow .u8 (bl (sbl))), .agg (irow .u8 (bl (bkl)))]) (results_rows2 Try.results30 _ _ (w.heap.size) (w.heap.size + 1) _ _ _ _ _ _ _ _ rfl r0 rfl r1 Try.underlying55 rfl hi0 Try.underlying55 rfl hi1) rfl ⟨rfl, hw⟩


set_option maxRecDepth 100000 in
set_option maxHeartbeats 4000000 in
theorem a_sub (x : B) : Gives 11 #[.int .u8 (bv x)] (.int .u8 (bv (sb x))) := by
  intro w
  have hc := a_boxes
  have hx := bnd x
  have en := bv_nat x
  have hi0 := info256 sbl sbl_len
  have hi1 := info256 bkl bkl_len
  have z0 : ∀ W : World, (Instr.alloc 55 true (.tuple #[])).run Try.prog W = .ok (.pointer (some ⟨W.heap.size, 0, none⟩)) (W.alloc (.cells (irow .u8 (bl (pt (fun x => sb (BitVec.ofNat 8 x)) 256 0))) 55)) := by rw [← zr_pt]; exact z256
  go_enter Try.func11, Try.ntmps11
  go_wp2_with (fail)
  refine (hc.at _).mono ?_
  rintro e_ w1 ⟨rfl, hb⟩
  replace hc : True := trivial
  have R0 := hp2_0 w1 (.cells (irow .u8 (bl (pt (fun x => sb (BitVec.ofNat 8 x)) 256 0))) 55) (.cells (irow .u8 (bl (pt (fun x => sb (BitVec.ofNat 8 x)) 256 0))) 55)
  have R1 := hp2_1 w1 (.cells (irow .u8 (bl (pt (fun x => sb (BitVec.ofNat 8 x)) 256 0))) 55) (.cells (irow .u8 (bl (pt (fun x => sb (BitVec.ofNat 8 x)) 256 0))) 55)
  have HW := Below.after hb (((Below.refl w1.heap.size w1).alloc (Nat.le_refl _) (.cells (irow .u8 (bl (pt (fun x => sb (BitVec.ofNat 8 x)) 256 0))) 55)).alloc (by simp) (.cells (irow .u8 (bl (pt (fun x => sb (BitVec.ofNat 8 x)) 256 0))) 55))
  have f0 := fit256 (pt (fun x => sb (BitVec.ofNat 8 x)) 256 0) sbl (pt_len _ _ _) sbl_len
  have f1 := fit256 (pt (fun x => sb (BitVec.ofNat 8 x)) 256 0) bkl (pt_len _ _ _) bkl_len
  have hs := hb.size
  go_wp2_with (first | (refine wpList_alloc rfl 55 rfl (irow .u8 (bl (pt (fun x => sb (BitVec.ofNat 8 x)) 256 0))) z0 ?_) | (refine wpList_store_row rfl 55 _ _ rfl (w1.heap.size) (irow .u8 (bl (sbl))) rfl rfl 55 _ R0 hi0 f0 (irow_one _ _) ?_; refine wpList_stay ?_) | fail)
  replace R1 := (setRow_other _ (w1.heap.size) (w1.heap.size + 1) (irow .u8 (bl (sbl))) (by omega)).trans R1
  replace R0 := setRow_heap _ (w1.heap.size) _ (irow .u8 (bl (sbl))) _ _ R0
  replace HW := below_setRow HW hs (irow .u8 (bl (sbl)))
  generalize World.setRow _ (w1.heap.size) (irow .u8 (bl (sbl))) = w8 at *
  unfold WpStay
  refine wpList_store_row rfl 55 _ _ rfl (w1.heap.size + 1) (irow .u8 (bl (bkl))) rfl rfl 55 _ R1 hi1 f1 (irow_one _ _) ?_
  simp only [Act.put]
  replace R0 := (setRow_other _ (w1.heap.size + 1) (w1.heap.size) (irow .u8 (bl (bkl))) (by omega)).trans R0
  replace R1 := setRow_heap _ (w1.heap.size + 1) _ (irow .u8 (bl (bkl))) _ _ R1
  replace HW := below_setRow HW (show w.heap.size ≤ w1.heap.size + 1 by omega) (irow .u8 (bl (bkl)))
  generalize World.setRow _ (w1.heap.size + 1) (irow .u8 (bl (bkl))) = w9 at *
  have cx := brow_cell R0 (j := x.toNat) (by rw [sbl_len]; exact x.isLt)
  rw [sbl_get] at cx
  go_wp2
  go_ret
  exact ⟨rfl, HW⟩

set_option maxRecDepth 100000 in
set_option maxHeartbeats 4000000 in
theorem a_back (x : B) : Gives 13 #[.int .u8 (bv x)] (.int .u8 (bv (bk x))) := by
  intro w
  have hc := a_boxes
  have hx := bnd x
  have en := bv_nat x
  have hi0 := info256 sbl sbl_len
  have hi1 := info256 bkl bkl_len
  have z0 : ∀ W : World, (Instr.alloc 55 true (.tuple #[])).run Try.prog W = .ok (.pointer (some ⟨W.heap.size, 0, none⟩)) (W.alloc (.cells (irow .u8 (bl (pt (fun x => sb (BitVec.ofNat 8 x)) 256 0))) 55)) := by rw [← zr_pt]; exact z256
  go_enter Try.func13, Try.ntmps13
  go_wp2_with (fail)
  refine (hc.at _).mono ?_
  rintro e_ w1 ⟨rfl, hb⟩
  replace hc : True := trivial
  have R0 := hp2_0 w1 (.cells (irow .u8 (bl (pt (fun x => sb (BitVec.ofNat 8 x)) 256 0))) 55) (.cells (irow .u8 (bl (pt (fun x => sb (BitVec.ofNat 8 x)) 256 0))) 55)
  have R1 := hp2_1 w1 (.cells (irow .u8 (bl (pt (fun x => sb (BitVec.ofNat 8 x)) 256 0))) 55) (.cells (irow .u8 (bl (pt (fun x => sb (BitVec.ofNat 8 x)) 256 0))) 55)
  have HW := Below.after hb (((Below.refl w1.heap.size w1).alloc (Nat.le_refl _) (.cells (irow .u8 (bl (pt (fun x => sb (BitVec.ofNat 8 x)) 256 0))) 55)).alloc (by simp) (.cells (irow .u8 (bl (pt (fun x => sb (BitVec.ofNat 8 x)) 256 0))) 55))
  have f0 := fit256 (pt (fun x => sb (BitVec.ofNat 8 x)) 256 0) sbl (pt_len _ _ _) sbl_len
  have f1 := fit256 (pt (fun x => sb (BitVec.ofNat 8 x)) 256 0) bkl (pt_len _ _ _) bkl_len
  have hs := hb.size
  go_wp2_with (first | (refine wpList_alloc rfl 55 rfl (irow .u8 (bl (pt (fun x => sb (BitVec.ofNat 8 x)) 256 0))) z0 ?_) | (refine wpList_store_row rfl 55 _ _ rfl (w1.heap.size) (irow .u8 (bl (sbl))) rfl rfl 55 _ R0 hi0 f0 (irow_one _ _) ?_; refine wpList_stay ?_) | fail)
  replace R1 := (setRow_other _ (w1.heap.size) (w1.heap.size + 1) (irow .u8 (bl (sbl))) (by omega)).trans R1
  replace R0 := setRow_heap _ (w1.heap.size) _ (irow .u8 (bl (sbl))) _ _ R0
  replace HW := below_setRow HW hs (irow .u8 (bl (sbl)))
  generalize World.setRow _ (w1.heap.size) (irow .u8 (bl (sbl))) = w8 at *
  unfold WpStay
  refine wpList_store_row rfl 55 _ _ rfl (w1.heap.size + 1) (irow .u8 (bl (bkl))) rfl rfl 55 _ R1 hi1 f1 (irow_one _ _) ?_
  simp only [Act.put]
  replace R0 := (setRow_other _ (w1.heap.size + 1) (w1.heap.size) (irow .u8 (bl (bkl))) (by omega)).trans R0
  replace R1 := setRow_heap _ (w1.heap.size + 1) _ (irow .u8 (bl (bkl))) _ _ R1
  replace HW := below_setRow HW (show w.heap.size ≤ w1.heap.size + 1 by omega) (irow .u8 (bl (bkl)))
  generalize World.setRow _ (w1.heap.size + 1) (irow .u8 (bl (bkl))) = w9 at *
  have cx := brow_cell R1 (j := x.toNat) (by rw [bkl_len]; exact x.isLt)
  rw [bkl_get] at cx
  go_wp2
  go_ret
  exact ⟨rfl, HW⟩

end Go.Proofs.Ytmldmlbmfbdjoaa


namespace Go.Proofs.Ytmldmlbmfbdjoaa
open Go Go.RowKit Go.Sort
attribute [local go_sem] setCell_drewN alloc_drewN

/-! The reference's Inverse, quick, spread. -/
set_option maxHeartbeats 1000000 in
theorem r_inverse (a : B) : Gives 32 #[.int .u8 (bv a)] (.int .u8 (bv (pown 254 a))) := by
  intro w
  go_enter Try.func32, Try.ntmps32
  go_wp2_with (fail)
  go_loopw [3, 4] (fun x i wr => ∃ k : Nat, k ≤ 254 ∧ i = .int .i64 k ∧ x = .int .u8 (bv (pown k a)) ∧ Below w.heap.size w wr) (fun _ i _ => 254 - (intOf i).toNat)
  case atStart => exact ⟨0, by omega, rfl, rfl, Below.refl _ _⟩
  case round =>
    obtain ⟨k, hk, rfl, rfl, hw⟩ := hrel
    by_cases hlt : k < 254
    · have hd : decide ((k : Int) < 254) = true := by simp; omega
      have c := r_times (pown k a) a
      go_wp2_with (fail)
      refine (c.at _).mono ?_
      rintro e w1 ⟨rfl, hb⟩
      go_wp2
      go_roundw
      case rel => exact ⟨k + 1, by omega, by go_num, rfl, Below.after hw hb⟩
      case measure => simp [intOf]; omega
    · obtain rfl : k = 254 := by omega
      have hd : decide ((254 : Int) < 254) = false := by decide
      obtain ⟨T, hT⟩ : ∃ T, T = pown 254 a := ⟨_, rfl⟩
      rw [← hT]
      replace hT := hide hT
      clear hlt hk
      go_wp2
      go_ret
      rw [← hT.out]
      exact ⟨rfl, hw⟩
/-- The state of quick. -/
def qst : Nat → B → B × B
  | 0, a => (1#8, a)
  | k + 1, a => (tm (qst k a).1 (tm (qst k a).2 (qst k a).2), tm (qst k a).2 (qst k a).2)
theorem qk_qst (a : B) : ∀ n k, qk n (qst k a).1 (qst k a).2 = (qst (k + n) a).1 := by
  intro n
  induction n with
  | zero => intro k; rfl
  | succ n ih =>
    intro k
    have := ih (k + 1)
    rw [qst] at this
    rw [qk, this]
    congr 2
    omega
set_option maxHeartbeats 1000000 in
theorem r_quick (a : B) : Gives 53 #[.int .u8 (bv a)] (.int .u8 (bv (qk 7 1#8 a))) := by
  intro w
  rw [show qk 7 1#8 a = (qst 7 a).1 from qk_qst a 7 0]
  go_enter Try.func53, Try.ntmps53
  go_wp2_with (fail)
  go_loopw [3, 4, 5] (fun x y i wr => ∃ k : Nat, k ≤ 7 ∧ i = .int .i64 k ∧ x = .int .u8 (bv (qst k a).1) ∧ y = .int .u8 (bv (qst k a).2) ∧ Below w.heap.size w wr) (fun _ _ i _ => 7 - (intOf i).toNat)
  case atStart => exact ⟨0, by omega, rfl, rfl, rfl, Below.refl _ _⟩
  case round =>
    obtain ⟨k, hk, rfl, rfl, rfl, hw⟩ := hrel
    by_cases hlt : k < 7
    · have hd : decide ((k : Int) < 7) = true := by simp; omega
      have e1 : tm (qst k a).1 (tm (qst k a).2 (qst k a).2) = (qst (k + 1) a).1 := rfl
      have e2 : tm (qst k a).2 (qst k a).2 = (qst (k + 1) a).2 := rfl
      have c := r_times (qst k a).2 (qst k a).2
      rw [e2] at c e1
      have c2 := r_times (qst k a).1 (qst (k + 1) a).2
      rw [e1] at c2
      clear e1 e2
      go_wp2_with (fail)
      refine (c.at _).mono ?_
      rintro e w1 ⟨rfl, hb⟩
      go_wp2_with (fail)
      refine (c2.at _).mono ?_
      rintro e w2 ⟨rfl, hb2⟩
      go_wp2
      go_roundw
      case rel => exact ⟨k + 1, by omega, by go_num, rfl, rfl, Below.after (Below.after hw hb) hb2⟩
      case measure => simp [intOf]; omega
    · obtain rfl : k = 7 := by omega
      have hd : decide ((7 : Int) < 7) = false := by decide
      obtain ⟨T, hT⟩ : ∃ T, T = qst 7 a := ⟨_, rfl⟩
      rw [← hT]
      replace hT := hide hT
      clear hlt hk
      go_wp2
      go_ret
      rw [← hT.out]
      exact ⟨rfl, hw⟩
/-- One bit of spread, and spread, as they are put together. -/
def bt (y : B) (i : Nat) : Nat → B
  | 0 => 0#8
  | j + 1 => if j = 0 ∨ 4 ≤ j then bt y i j ^^^ ((y >>> ((i + j) % 8)) &&& 1#8) else bt y i j
def rf (y : B) : Nat → B
  | 0 => 0x63#8
  | i + 1 => rf y i ^^^ (bt y i 8 <<< i)
theorem rf_spr : ∀ y : B, rf y 8 = spr y := by decide +kernel
theorem e_bit (y : B) (n : Nat) : bv y / 2 ^ n % 2 = bv ((y >>> n) &&& 1#8) := by
  unfold bv
  rw [BitVec.toNat_and, BitVec.toNat_ushiftRight, Nat.shiftRight_eq_div_pow]
  rw [show BitVec.toNat 1#8 = 1 from rfl, Nat.and_one_is_mod]
  simp
theorem e_tbit (y : B) (n : Nat) : (bv y / 2 ^ n).tmod 2 = bv ((y >>> n) &&& 1#8) := by
  rw [Int.tmod_eq_emod_of_nonneg, e_bit]
  exact Int.ediv_nonneg (bnd y).1 (Int.pow_nonneg (by decide))
theorem e_shl (c : B) (n : Nat) : bv c * 2 ^ n % 256 = bv (c <<< n) := by
  unfold bv
  rw [BitVec.toNat_shiftLeft, Nat.shiftLeft_eq]
  simp
set_option maxHeartbeats 1000000 in
theorem r_spread (y : B) : Gives 31 #[.int .u8 (bv y)] (.int .u8 (bv (spr y))) := by
  intro w
  rw [← rf_spr]
  have hy := bnd y
  go_enter Try.func31, Try.ntmps31
  go_wp2_with (fail)
  go_loopw [3, 4] (fun x i wr => ∃ k : Nat, k ≤ 8 ∧ i = .int .i64 k ∧ x = .int .u8 (bv (rf y k)) ∧ Below w.heap.size w wr) (fun _ i _ => 8 - (intOf i).toNat)
  case atStart => exact ⟨0, by omega, rfl, rfl, Below.refl _ _⟩
  case round =>
    obtain ⟨k, hk, rfl, rfl, hw⟩ := hrel
    by_cases hlt : k < 8
    · have hd : decide ((k : Int) < 8) = true := by simp; omega
      have hr := bnd (rf y k)
      obtain ⟨R, hR⟩ : ∃ R, R = rf y k := ⟨_, rfl⟩
      rw [← hR] at hr ⊢
      replace hR := hide hR
      go_wp2_with (fail)
      go_loopw [5, 6] (fun x j W => ∃ l : Nat, l ≤ 8 ∧ j = .int .i64 l ∧ x = .int .u8 (bv (bt y k l)) ∧ W = wr) (fun _ j _ => 8 - (intOf j).toNat)
      case atStart => exact ⟨0, by omega, rfl, rfl, rfl⟩
      case round =>
        obtain ⟨l, hl, rfl, rfl, rfl⟩ := hrel
        by_cases hl8 : l < 8
        · have hd : decide ((l : Int) < 8) = true := by simp; omega
          have hb := bnd (bt y k l)
          by_cases hq : l = 0 ∨ 4 ≤ l
          · have hst : Hid (bt y k (l + 1) = bt y k l ^^^ ((y >>> ((k + l) % 8)) &&& 1#8)) := hide (by rw [bt, if_pos hq])
            rcases hq with hl0 | hl4
            · subst hl0
              go_wp2
              refine ⟨⟨1, by omega, rfl, ?_, trivial⟩, by simp [intOf]⟩
              rw [show (1 : Nat) = 0 + 1 from rfl, hst.out, ← xor8, ← e_tbit, Nat.add_zero]
            · have h0 : ¬ l = 0 := by omega
              have h4 : (4 : Int) ≤ (l : Int) := by omega
              go_wp2
              refine ⟨⟨l + 1, by omega, by go_num, ?_, trivial⟩, by simp [intOf]; omega⟩
              rw [hst.out, ← xor8, ← e_tbit]
          · have hst : Hid (bt y k (l + 1) = bt y k l) := hide (by rw [bt, if_neg hq])
            have h0 : ¬ l = 0 := by omega
            have h4 : ¬ (4 : Int) ≤ (l : Int) := by omega
            go_wp2
            refine ⟨⟨l + 1, by omega, by go_num, by rw [hst.out], trivial⟩, by simp [intOf]; omega⟩
        · obtain rfl : l = 8 := by omega
          have hd : decide ((8 : Int) < 8) = false := by decide
          have hst : Hid (rf y (k + 1) = R ^^^ (bt y k 8 <<< k)) := hide (by rw [hR.out, rf])
          generalize bt y k 8 = C at *
          have hb := bnd C
          go_wp2
          refine ⟨⟨k + 1, by omega, by go_num, ?_, hw⟩, by simp [intOf]; omega⟩
          rw [hst.out, ← xor8, ← e_shl]
    · obtain rfl : k = 8 := by omega
      have hd : decide ((8 : Int) < 8) = false := by decide
      obtain ⟨T, hT⟩ : ∃ T, T = rf y 8 := ⟨_, rfl⟩
      rw [← hT]
      replace hT := hide hT
      clear hlt hk
      go_wp2
      go_ret
      rw [← hT.out]
      exact ⟨rfl, hw⟩
set_option maxHeartbeats 1000000 in
theorem r_sub (x : B) : Gives 12 #[.int .u8 (bv x)] (.int .u8 (bv (sb x))) := by
  intro w
  have c1 := r_inverse x
  have c2 := r_spread (pown 254 x)
  rw [show spr (pown 254 x) = sb x by rw [sb_qk, pown_254]] at c2
  obtain ⟨T, hT⟩ : ∃ T, T = pown 254 x := ⟨_, rfl⟩
  rw [← hT] at c1 c2
  clear hT
  go_enter Try.func12, Try.ntmps12
  go_wp2_with (fail)
  refine (c1.at _).mono ?_
  rintro e w1 ⟨rfl, hb⟩
  go_wp2_with (fail)
  refine (c2.at _).mono ?_
  rintro e w2 ⟨rfl, hb2⟩
  go_wp2
  go_ret
  exact ⟨rfl, Below.after hb hb2⟩
set_option maxRecDepth 100000 in
set_option maxHeartbeats 4000000 in
theorem r_table : Gives 33 #[] (.agg (irow .u8 (bl sbl))) := by
  intro w
  have hz : ∀ W : World, (Instr.alloc 55 true (.tuple #[])).run Try.prog W = .ok (.pointer (some ⟨W.heap.size, 0, none⟩)) (W.alloc (.cells (irow .u8 (bl (pt (fun x => sb (BitVec.ofNat 8 x)) 256 0))) 55)) := by rw [← zr_pt]; exact z256
  have R0 := hp2_0 w (.cells (irow .u8 (bl (pt (fun x => sb (BitVec.ofNat 8 x)) 256 0))) 55) (.cells (irow .u8 (bl (pt (fun x => sb (BitVec.ofNat 8 x)) 256 0))) 55)
  have R1 := hp2_1 w (.cells (irow .u8 (bl (pt (fun x => sb (BitVec.ofNat 8 x)) 256 0))) 55) (.cells (irow .u8 (bl (pt (fun x => sb (BitVec.ofNat 8 x)) 256 0))) 55)
  have HW := (((Below.refl w.heap.size w).alloc (Nat.le_refl _) (.cells (irow .u8 (bl (pt (fun x => sb (BitVec.ofNat 8 x)) 256 0))) 55)).alloc (by simp) (.cells (irow .u8 (bl (pt (fun x => sb (BitVec.ofNat 8 x)) 256 0))) 55))
  go_enter Try.func33, Try.ntmps33
  go_wp2_with (first | (refine wpList_alloc rfl 55 rfl (irow .u8 (bl (pt (fun x => sb (BitVec.ofNat 8 x)) 256 0))) hz ?_) | fail)
  clear hz
  generalize World.alloc _ _ = w0 at *
  go_loopw [2] (fun i wr => ∃ k : Nat, k ≤ 256 ∧ i = .int .i64 k ∧ wr.heap[w.heap.size]? = some (.cells (irow .u8 (bl (pt (fun x => sb (BitVec.ofNat 8 x)) 256 0))) 55 (0, 0)) ∧ wr.heap[w.heap.size + 1]? = some (.cells (irow .u8 (bl (pt (fun x => sb (BitVec.ofNat 8 x)) 256 k))) 55 (0, 0)) ∧ Below w.heap.size w wr) (fun i _ => 256 - (intOf i).toNat)
  case atStart => exact ⟨0, by omega, rfl, R0, R1, HW⟩
  case round =>
    clear R0 R1 HW
    obtain ⟨k, hk, rfl, r0, r1, hw⟩ := hrel
    by_cases hlt : k < 256
    · have hd : decide ((k : Int) < 256) = true := by simp; omega
      have c1 := r_quick (BitVec.ofNat 8 k)
      have c2 := r_spread (qk 7 1#8 (BitVec.ofNat 8 k))
      rw [← sb_qk] at c2
      rw [of_bv k hlt] at c1
      have hset := hide (pt_set (fun x => sb (BitVec.ofNat 8 x)) 256 k hlt)
      go_wp2_with (fail)
      refine (c1.at _).mono ?_
      rintro e w1 ⟨rfl, hb⟩
      replace r0 := keep hb r0
      replace r1 := keep hb r1
      replace hw := Below.after hw hb
      clear hb c1
      go_wp2_with (fail)
      refine (c2.at _).mono ?_
      rintro e w2 ⟨rfl, hb⟩
      replace r0 := keep hb r0
      replace r1 := keep hb r1
      replace hw := Below.after hw hb
      clear hb c2
      have c0 := brow_cell r1 (j := k) (by rw [pt_len]; exact hlt)
      have hf := row_frozen r1 k
      go_wp2
      refine ⟨⟨k + 1, by omega, by go_num, heap_other r0 (by omega), by rw [← hset.out]; exact brow_set r1 k _, hw.setCell (show w.heap.size ≤ w.heap.size + 1 by omega) _⟩, by simp [intOf]; omega⟩
    · obtain rfl : k = 256 := by omega
      have hd : decide ((256 : Int) < 256) = false := by decide
      replace r1 : wr.heap[w.heap.size + 1]? = some (.cells (irow .u8 (bl sbl)) 55 (0, 0)) := r1
      have hin := info256 sbl sbl_len
      have hfi := fit256 (pt (fun x => sb (BitVec.ofNat 8 x)) 256 0) sbl (pt_len _ _ _) sbl_len
      clear hk hlt
      go_wp2_with (first | (refine wpList_load_want rfl 55 _ rfl (w.heap.size + 1) rfl 55 (irow .u8 (bl sbl)) (0, 0) _ r1 Try.underlying55 rfl hin ?_) | (refine wpList_store_row rfl 55 _ _ rfl (w.heap.size) (irow .u8 (bl sbl)) rfl rfl 55 _ r0 hin hfi (irow_one _ _) ?_) | fail)
      replace r0 := setRow_heap wr (w.heap.size) _ (irow .u8 (bl sbl)) _ _ r0
      replace hw := below_setRow hw (Nat.le_refl _) (irow .u8 (bl sbl))
      generalize wr.setRow (w.heap.size) (irow .u8 (bl sbl)) = w9 at *
      exact bodyPost_ret (v := .agg (irow .u8 (bl sbl))) (results_cell_row Try.results33 _ _ (w.heap.size) _ _ _ _ rfl r0 Try.underlying55 rfl hin) rfl ⟨rfl, hw⟩
theorem sb_eq_iff (x : B) (k : Nat) (hk : k < 256) : sb (BitVec.ofNat 8 k) = x ↔ k = (bk x).toNat := by
  constructor
  · intro h
    rw [← h, bk_sb, BitVec.toNat_ofNat]; omega
  · intro h
    rw [h, BitVec.ofNat_toNat, BitVec.setWidth_eq, sb_bk]
set_option maxRecDepth 100000 in
set_option maxHeartbeats 4000000 in
theorem r_back (x : B) : Gives 14 #[.int .u8 (bv x)] (.int .u8 (bv (bk x))) := by
  intro w
  have hc := r_table
  have hin := info256 sbl sbl_len
  have hfi := fit256 (pt (fun x => sb (BitVec.ofNat 8 x)) 256 0) sbl (pt_len _ _ _) sbl_len
  have hz : ∀ W : World, (Instr.alloc 55 true (.tuple #[])).run Try.prog W = .ok (.pointer (some ⟨W.heap.size, 0, none⟩)) (W.alloc (.cells (irow .u8 (bl (pt (fun x => sb (BitVec.ofNat 8 x)) 256 0))) 55)) := by rw [← zr_pt]; exact z256
  go_enter Try.func14, Try.ntmps14
  go_wp2_with (fail)
  refine (hc.at _).mono ?_
  rintro e w1 ⟨rfl, hb⟩
  have R0 := hp1_0 w1 (.cells (irow .u8 (bl (pt (fun x => sb (BitVec.ofNat 8 x)) 256 0))) 55)
  have HW := Below.after hb ((Below.refl w1.heap.size w1).alloc (Nat.le_refl _) (.cells (irow .u8 (bl (pt (fun x => sb (BitVec.ofNat 8 x)) 256 0))) 55))
  have hs := hb.size
  go_wp2_with (first | (refine wpList_alloc rfl 55 rfl (irow .u8 (bl (pt (fun x => sb (BitVec.ofNat 8 x)) 256 0))) hz ?_) | (refine wpList_store_row rfl 55 _ _ rfl (w1.heap.size) (irow .u8 (bl sbl)) rfl rfl 55 _ R0 hin hfi (irow_one _ _) ?_) | fail)
  replace R0 := setRow_heap _ (w1.heap.size) _ (irow .u8 (bl sbl)) _ _ R0
  replace HW := below_setRow HW hs (irow .u8 (bl sbl))
  generalize World.setRow _ (w1.heap.size) (irow .u8 (bl sbl)) = w2 at *
  clear hz hb hc
  have hbk := (bk x).isLt
  have hlow : Hid (∀ k < 256, (bv (sb (BitVec.ofNat 8 k)) = bv x ↔ k = (bk x).toNat)) := hide (fun k h => by rw [bv_inj, sb_eq_iff x k h])
  go_loopw [4] (fun i wr => ∃ k : Nat, k ≤ (bk x).toNat ∧ i = .int .i64 k ∧ wr = w2) (fun i _ => 256 - (intOf i).toNat)
  case atStart => exact ⟨0, by omega, rfl, rfl⟩
  case round =>
    obtain ⟨k, hk, rfl, rfl⟩ := hrel
    have hlt : k < 256 := by omega
    have hd : decide ((k : Int) < 256) = true := by simp; omega
    have c0 := brow_cell R0 (j := k) (by rw [sbl_len]; exact hlt)
    rw [sbl, pt_get _ _ _ hlt hlt] at c0
    by_cases he : k = (bk x).toNat
    · have hq : bv (sb (BitVec.ofNat 8 k)) = bv x := (hlow.out k hlt).2 he
      have hz : (bv (bk x)) = (k : Int) := by unfold bv; rw [he]
      rw [hq] at c0
      clear hq he hbk hk
      go_wp2
      go_ret
      rw [hz]
      exact ⟨rfl, HW⟩
    · have hq : ¬ bv (sb (BitVec.ofNat 8 k)) = bv x := fun h => he ((hlow.out k hlt).1 h)
      have hde : decide (bv (sb (BitVec.ofNat 8 k)) = bv x) = false := decide_eq_false hq
      go_wp2
      refine ⟨⟨k + 1, by omega, by go_num, trivial⟩, by simp [intOf]; omega⟩
end Go.Proofs.Ytmldmlbmfbdjoaa

namespace Go.Proofs.Ytmldmlbmfbdjoaa
open Go Go.RowKit Go.Sort
attribute [local go_sem] setCell_drewN alloc_drewN

set_option maxHeartbeats 1000000 in
theorem times_any (a b : B) : Gives 3 #[.int .u8 (bv a), .int .u8 (bv b)] (.bool true) := by
  intro w
  have hw : Below w.heap.size w w := Below.refl _ _
  have c1 := a_times a b
  have c2 := r_times a b
  have c3 := a_sub a
  have c4 := r_sub a
  have c5 := a_back b
  have c6 := r_back b
  go_enter Try.func3, Try.ntmps3
  go_wp2_with (fail)
  refine (c1.at _).mono ?_
  rintro e_ w0 ⟨rfl, hb⟩
  replace hw := Below.after hw hb
  clear hb
  go_wp2_with (fail)
  refine (c2.at _).mono ?_
  rintro e_ w1 ⟨rfl, hb⟩
  replace hw := Below.after hw hb
  clear hb
  go_wp2_with (fail)
  refine (c3.at _).mono ?_
  rintro e_ w2 ⟨rfl, hb⟩
  replace hw := Below.after hw hb
  clear hb
  go_wp2_with (fail)
  refine (c4.at _).mono ?_
  rintro e_ w3 ⟨rfl, hb⟩
  replace hw := Below.after hw hb
  clear hb
  go_wp2_with (fail)
  refine (c5.at _).mono ?_
  rintro e_ w4 ⟨rfl, hb⟩
  replace hw := Below.after hw hb
  clear hb
  go_wp2_with (fail)
  refine (c6.at _).mono ?_
  rintro e_ w5 ⟨rfl, hb⟩
  replace hw := Below.after hw hb
  clear hb

  go_wp2
  go_ret
  exact ⟨rfl, hw⟩
set_option maxHeartbeats 1000000 in
theorem field_any (a b c : B) : Gives 8 #[.int .u8 (bv a), .int .u8 (bv b), .int .u8 (bv c)] (.bool true) := by
  intro w
  have hw : Below w.heap.size w w := Below.refl _ _
  have c1 : Gives 9 #[.int .u8 1, .int .u8 (bv a)] (.int .u8 (bv a)) := by have := a_times 1#8 a; rw [tm_one] at this; exact this
  have c2 : Gives 9 #[.int .u8 128, .int .u8 2] (.int .u8 27) := by have := a_times 0x80#8 2#8; rw [show tm 0x80#8 2#8 = 27#8 by decide +kernel] at this; exact this
  have c3 := a_times a b
  have c4 := a_times b a
  rw [tm_comm b a] at c4
  have c5 := a_times (tm a b) c
  have c6 := a_times b c
  have c7 := a_times a (tm b c)
  rw [← tm_assoc] at c7
  have c8 := a_times a (b ^^^ c)
  have c9 := a_times a c
  have hx := xor8 b c
  have hx2 := xor8 (tm a b) (tm a c)
  rw [← tm_add] at hx2
  have hz : bv (tm a b) = 0 ↔ bv a = 0 ∨ bv b = 0 := by
    have h0 : (0 : Int) = bv 0#8 := rfl
    rw [h0, bv_inj, bv_inj, bv_inj, tm_eq_zero]
  replace hz := hide hz
  generalize tm a b = ab at *
  generalize tm b c = bc at *
  generalize tm a c = ac at *
  generalize b ^^^ c = bxc at *
  generalize tm ab c = abc at *
  generalize tm a bxc = abxc at *
  go_enter Try.func8, Try.ntmps8
  go_wp2_with (fail)
  refine (c1.at _).mono ?_
  rintro e_ w0 ⟨rfl, hb⟩
  replace hw := Below.after hw hb
  clear hb
  go_wp2_with (fail)
  refine (c2.at _).mono ?_
  rintro e_ w1 ⟨rfl, hb⟩
  replace hw := Below.after hw hb
  clear hb
  go_wp2_with (fail)
  refine (c3.at _).mono ?_
  rintro e_ w2 ⟨rfl, hb⟩
  replace hw := Below.after hw hb
  clear hb
  go_wp2_with (fail)
  refine (c4.at _).mono ?_
  rintro e_ w3 ⟨rfl, hb⟩
  replace hw := Below.after hw hb
  clear hb
  go_wp2_with (fail)
  refine (c3.at _).mono ?_
  rintro e_ w4 ⟨rfl, hb⟩
  replace hw := Below.after hw hb
  clear hb
  go_wp2_with (fail)
  refine (c5.at _).mono ?_
  rintro e_ w5 ⟨rfl, hb⟩
  replace hw := Below.after hw hb
  clear hb
  go_wp2_with (fail)
  refine (c6.at _).mono ?_
  rintro e_ w6 ⟨rfl, hb⟩
  replace hw := Below.after hw hb
  clear hb
  go_wp2_with (fail)
  refine (c7.at _).mono ?_
  rintro e_ w7 ⟨rfl, hb⟩
  replace hw := Below.after hw hb
  clear hb
  go_wp2_with (fail)
  refine (c8.at _).mono ?_
  rintro e_ w8 ⟨rfl, hb⟩
  replace hw := Below.after hw hb
  clear hb
  go_wp2_with (fail)
  refine (c3.at _).mono ?_
  rintro e_ w9 ⟨rfl, hb⟩
  replace hw := Below.after hw hb
  clear hb
  go_wp2_with (fail)
  refine (c9.at _).mono ?_
  rintro e_ w10 ⟨rfl, hb⟩
  replace hw := Below.after hw hb
  clear hb
  go_wp2_with (fail)
  refine (c3.at _).mono ?_
  rintro e_ w11 ⟨rfl, hb⟩
  replace hw := Below.after hw hb
  clear hb

  by_cases ha : bv a = 0
  · have hab : bv ab = 0 := hz.out.2 (.inl ha)
    go_wp2
    go_ret
    exact ⟨rfl, hw⟩
  · by_cases hb : bv b = 0
    · have hab : bv ab = 0 := hz.out.2 (.inr hb)
      go_wp2
      go_ret
      exact ⟨rfl, hw⟩
    · have hab : ¬ bv ab = 0 := fun h => (hz.out.1 h).elim ha hb
      go_wp2
      go_ret
      exact ⟨ret_bool (a := ((bv ab == 0) == (bv a == 0 || bv b == 0))) (by rw [beq_eq_false_iff_ne.2 hab, beq_eq_false_iff_ne.2 ha, beq_eq_false_iff_ne.2 hb]; rfl), hw⟩

end Go.Proofs.Ytmldmlbmfbdjoaa

