import Derived.Test.YtmldmlbmfbdjoabS0
import Derived.Test.YtmldmlbmfbdjoabProg
import Derived.WalkKit
import Derived.WalkSpells
import Derived.WalkLawsBesides
import Derived.Lib.QuietBelow
import Derived.BigQuiet
import Derived.Deep.RegionHeld3
import Derived.OwnWalk
namespace Go.Proofs.Ytmldmlbmfbdjoab
open Go Go.RowKit Go.Sort
attribute [local go_sem] setCell_drewN alloc_drewN

/-! Bytes as numbers. -/
def bv (a : B) : Int := (a.toNat : Int)
theorem bnd (a : B) : 0 ≤ bv a ∧ bv a < 256 := by
  have := a.isLt
  unfold bv
  omega
theorem ofInt_toNat {n : Nat} (a : BitVec n) : BitVec.ofInt n (a.toNat : Int) = a := by
  rw [BitVec.ofInt_natCast, BitVec.ofNat_toNat, BitVec.setWidth_eq]
theorem wrap8 (a : BitVec 8) : IntKind.u8.wrap (a.toNat : Int) = (a.toNat : Int) := by
  rw [IntKind.wrap_u8]; have := a.isLt; omega
theorem wrap32 (a : BitVec 32) : IntKind.u32.wrap (a.toNat : Int) = (a.toNat : Int) := by
  rw [IntKind.wrap_u32]; have := a.isLt; omega
theorem bv_nat (a : B) : (bv a).toNat = a.toNat := rfl
theorem bv_inj {a b : B} : bv a = bv b ↔ a = b := by
  constructor
  · intro h; apply BitVec.eq_of_toNat_eq; unfold bv at h; omega
  · rintro rfl; rfl
theorem xor8 (a b : B) : bits .xor .u8 (bv a) (bv b) = bv (a ^^^ b) := by
  show IntKind.u8.wrap ((BitVec.ofInt 8 a.toNat ^^^ BitVec.ofInt 8 b.toNat).toNat : Int) = _
  rw [ofInt_toNat, ofInt_toNat, wrap8]; rfl
theorem e_dbl : ∀ a : B, bits .xor .u8 (bv a * 2 % 256) (bv a / 128 * 27) = bv (dbl a) := by decide +kernel
theorem e_dbl_hi : ∀ a : B, bv a ≥ 128 → bits .xor .u8 (bv a * 2 % 256) 27 = bv (dbl a) := by decide +kernel
theorem e_dbl_lo : ∀ a : B, ¬ bv a ≥ 128 → bv a * 2 = bv (dbl a) := by decide +kernel
set_option maxHeartbeats 1000000 in
theorem a_twice (a : B) : Gives 34 #[.int .u8 (bv a)] (.int .u8 (bv (dbl a))) := by
  intro w
  have e := e_dbl a
  have hb := bnd a
  go_enter Try.func34, Try.ntmps34
  go_wp2
  go_ret
  exact ⟨rfl, Below.refl _ _⟩
set_option maxHeartbeats 1000000 in
theorem r_double (a : B) : Gives 26 #[.int .u8 (bv a)] (.int .u8 (bv (dbl a))) := by
  intro w
  have hb := bnd a
  by_cases hx : bv a ≥ 128
  · have e := e_dbl_hi a hx
    go_enter Try.func26, Try.ntmps26
    go_wp2
    go_ret
    exact ⟨rfl, Below.refl _ _⟩
  · have e := e_dbl_lo a hx
    go_enter Try.func26, Try.ntmps26
    go_wp2
    go_ret
    exact ⟨rfl, Below.refl _ _⟩

/-! Times of both. -/
theorem tmn_zero (n : Nat) : ∀ a, tmn n a 0#8 = 0#8 := by
  induction n with
  | zero => intro a; rfl
  | succ n ih => intro a; simp [tmn, ih]
theorem tm_eight (a b : B) : tmn 9 a b = tmn 8 a b := by
  have h : ∀ n a b, tmn (n + 1) a b = tmn n a b ^^^ (if b.getLsbD n then (Nat.repeat dbl n a) else 0#8) := by
    intro n
    induction n with
    | zero => intro a b; simp [tmn, Nat.repeat]
    | succ n ih =>
      intro a b
      rw [tmn, ih, tmn]
      have e : ∀ (n : Nat) (a : B), Nat.repeat dbl n (dbl a) = Nat.repeat dbl (n + 1) a := by
        intro n
        induction n with
        | zero => intro a; rfl
        | succ n ih => intro a; rw [Nat.repeat, ih]; rfl
      rw [e, BitVec.getLsbD_ushiftRight, Nat.add_comm 1 n, BitVec.xor_assoc]
  rw [h 8 a b]
  simp
theorem tm_step (a b : B) : tm a b = (if b.getLsbD 0 then a else 0#8) ^^^ tm (dbl a) (b >>> 1) := by
  rw [tm, ← tm_eight, tmn, tm]
theorem low_and : ∀ b : B, bits .and .u8 (bv b) 1 = if b.getLsbD 0 then 1 else 0 := by decide +kernel
theorem low_mod : ∀ b : B, bv b % 2 = if b.getLsbD 0 then 1 else 0 := by decide +kernel
theorem half_of (b : B) : bv b / 2 = bv (b >>> 1) := by
  unfold bv
  rw [BitVec.toNat_ushiftRight, Nat.shiftRight_eq_div_pow]; rfl
theorem bv_pos {q : B} (h : q ≠ 0#8) : 0 < bv q := by
  have : q.toNat ≠ 0 := fun e => h (BitVec.eq_of_toNat_eq (by simpa using e))
  unfold bv; omega
set_option maxHeartbeats 1000000 in
theorem r_times (a b : B) : Gives 38 #[.int .u8 (bv a), .int .u8 (bv b)] (.int .u8 (bv (tm a b))) := by
  intro w
  obtain ⟨T, hT⟩ : ∃ T, T = tm a b := ⟨_, rfl⟩
  rw [← hT]
  replace hT := hide hT
  go_enter Try.func38, Try.ntmps38
  go_wp2_with (fail)
  go_loopw [0, 1, 5, 6] (fun x y z i wr => ∃ (p q r : B) (k : Nat), k ≤ 8 ∧ i = .int .i64 k ∧ x = .int .u8 (bv p) ∧ y = .int .u8 (bv q) ∧ z = .int .u8 (bv r) ∧ Hid (T = r ^^^ tmn (8 - k) p q) ∧ Below w.heap.size w wr) (fun _ _ _ i _ => 8 - (intOf i).toNat)
  case atStart => exact ⟨a, b, 0#8, 0, by omega, rfl, rfl, rfl, rfl, hide (by rw [hT.out]; simp [tm]), Below.refl _ _⟩
  case round =>
    clear hT
    obtain ⟨p, q, r, k, hk, rfl, rfl, rfl, rfl, hT, hw⟩ := hrel
    by_cases hq : k = 8
    · obtain rfl : r = T := by rw [hT.out, hq]; simp [tmn]
      subst hq
      clear hT
      have hd : decide (((8 : Nat) : Int) < 8) = false := by decide
      go_wp2
      go_ret
      exact ⟨rfl, hw⟩
    · have hd : decide ((k : Int) < 8) = true := by simp; omega
      have c := r_double p
      have hlow := low_mod q
      have hha := half_of q
      have hx := xor8 r p
      have bq := bnd q
      have br := bnd r
      have bp := bnd p
      have hst : Hid (tmn (8 - k) p q = (if q.getLsbD 0 then p else 0#8) ^^^ tmn (8 - (k + 1)) (dbl p) (q >>> 1)) := hide (by rw [show 8 - k = (8 - (k + 1)) + 1 by omega, tmn])
      by_cases hb : q.getLsbD 0
      · rw [if_pos hb] at hst hlow
        replace hT : Hid (T = (r ^^^ p) ^^^ tmn (8 - (k + 1)) (dbl p) (q >>> 1)) := hide (by rw [hT.out, hst.out, BitVec.xor_assoc])
        clear hst hb
        go_wp2_with (fail)
        refine (c.at _).mono ?_
        rintro e w1 ⟨rfl, hb⟩
        go_wp2
        go_roundw
        case rel => exact ⟨dbl p, q >>> 1, r ^^^ p, k + 1, by omega, by go_num, rfl, rfl, rfl, hT, Below.after hw hb⟩
        case measure => simp [intOf]; omega
      · rw [if_neg hb] at hst hlow
        replace hT : Hid (T = r ^^^ tmn (8 - (k + 1)) (dbl p) (q >>> 1)) := hide (by rw [hT.out, hst.out, BitVec.zero_xor])
        clear hst hb hx
        go_wp2_with (fail)
        refine (c.at _).mono ?_
        rintro e w1 ⟨rfl, hb⟩
        go_wp2
        go_roundw
        case rel => exact ⟨dbl p, q >>> 1, r, k + 1, by omega, by go_num, rfl, rfl, rfl, hT, Below.after hw hb⟩
        case measure => simp [intOf]; omega
end Go.Proofs.Ytmldmlbmfbdjoab

namespace Go.Proofs.Ytmldmlbmfbdjoab
open Go Go.RowKit Go.Sort
attribute [local go_sem] setCell_drewN alloc_drewN


/-! Rows of bytes. -/
def bl (l : List B) : List Int := l.map bv
theorem bl_len (l : List B) : (bl l).length = l.length := by simp [bl]
theorem bl_get (l : List B) (j : Nat) : (bl l).getD j 0 = bv (l.getD j 0#8) := by
  simp only [bl, List.getD_eq_getElem?_getD, List.getElem?_map]
  cases l[j]? <;> rfl
theorem bl_set (l : List B) (j : Nat) (z : B) : (bl l).set j (bv z) = bl (l.set j z) := by
  simp [bl, List.map_set]
theorem bl_zr (n : Nat) : bl (List.replicate n 0#8) = zr n := by
  simp only [bl, zr, List.map_replicate]; rfl
theorem bl_bnd (l : List B) : ∀ z ∈ bl l, 0 ≤ z ∧ z < 256 := by
  intro z h
  obtain ⟨b, _, rfl⟩ := List.mem_map.1 h
  exact bnd b
theorem brow_cell {W : World} {g : Nat} {l : List B} {t : TypeId} (hg : W.heap[g]? = some (.cells (irow .u8 (bl l)) t (0, 0))) {j : Nat} (hj : j < l.length) : W.cell? ⟨g, j, none⟩ = some (.int .u8 (bv (l.getD j 0#8))) := by
  rw [← bl_get]; exact irow_cell hg (by rw [bl_len]; exact hj)
theorem brow_set {W : World} {g : Nat} {l : List B} {t : TypeId} (hg : W.heap[g]? = some (.cells (irow .u8 (bl l)) t (0, 0))) (j : Nat) (z : B) : (W.setCell ⟨g, j, none⟩ (.int .u8 (bv z))).heap[g]? = some (.cells (irow .u8 (bl (l.set j z))) t (0, 0)) := by
  rw [← bl_set]; exact irow_set hg j (bv z)
theorem brow_at (l : List B) (j : Nat) (hj : j < l.length) : (irow .u8 (bl l))[j]? = some (.int .u8 (bv (l.getD j 0#8))) := by
  rw [← bl_get]; exact irow_get .u8 _ j (by rw [bl_len]; exact hj)
theorem brow_put (l : List B) (j : Nat) (z : B) : (irow .u8 (bl l)).setIfInBounds j (.int .u8 (bv z)) = irow .u8 (bl (l.set j z)) := by
  simp [irow, bl, List.map_set]
theorem pt_zero (W : Nat → B) (n : Nat) : pt W n 0 = List.replicate n 0#8 := by
  apply List.ext_getElem (by simp [pt])
  intro i h1 h2
  simp [pt]
theorem zr_pt (W : Nat → B) (n : Nat) : zr n = bl (pt W n 0) := by rw [pt_zero, bl_zr]
theorem z256 (W : World) : (Instr.alloc 42 true (.tuple #[])).run Try.prog W = .ok (.pointer (some ⟨W.heap.size, 0, none⟩)) (W.alloc (.cells (irow .u8 (zr 256)) 42)) := by kernel_rfl
theorem info256 (l : List B) (h : l.length = 256) : (Try.prog.info? 42).map (·.size) = some (irow .u8 (bl l)).size := by
  rw [irow_size, bl_len, h]; kernel_rfl
theorem fit256 (l m : List B) (h : l.length = 256) (h2 : m.length = 256) : (irow .u8 (bl l)).size = (irow .u8 (bl m)).size := by
  rw [irow_size, irow_size, bl_len, bl_len, h, h2]
/-- An array's element by its place. -/
theorem index_row {t e : TypeId} {n : Nat} {kk ik : IntKind} {i0 : TypeInfo} (ht : Try.prog.underlying t = some (.array n e)) (hu : Try.prog.underlying e = some (.int kk)) (hi : Try.prog.info? e = some i0) (hs : ∀ W, (sizeOf e).run Try.prog W = .ok 1 W) (l : List Int) (hl : l.length = n) (j : Nat) (hj : j < n) (W : World) :
    (Instr.index t (.agg (irow kk l)) (.int ik (j : Int))).run Try.prog W = .ok (.int kk (l.getD j 0)) W := by
  have hp := run_part_int (P := Try.prog) W hu hi l j (by omega)
  have e : l.getD j 0 = l[j]'(by omega) := by simp [List.getD_eq_getElem?_getD, List.getElem?_eq_getElem (show j < l.length by omega)]
  rw [e]
  unfold Instr.index
  have h2 : (0 : Int) ≤ (j : Int) ∧ (j : Int) < ((n : Nat) : Int) := by omega
  simp only [asIntOf, Sem.run_bind, Sem.run_pure, Result.andThen_ok, run_underlying ht W, if_pos h2, hs, Int.toNat_natCast, Nat.mul_one]
  exact hp
theorem index256 (l : List B) (hl : l.length = 256) (j : Nat) (hj : j < 256) (W : World) : (Instr.index 42 (.agg (irow .u8 (bl l))) (.int .i64 (j : Int))).run Try.prog W = .ok (.int .u8 (bv (l.getD j 0#8))) W := by
  obtain ⟨i0, hi⟩ : ∃ i, Try.prog.info? 5 = some i := ⟨_, rfl⟩
  rw [← bl_get]
  exact index_row Try.underlying42 Try.underlying5 hi (fun W => by kernel_rfl) (bl l) (by rw [bl_len, hl]) j hj W

set_option maxRecDepth 100000 in
set_option maxHeartbeats 4000000 in
theorem a_inverses : Gives 30 #[] (.agg (irow .u8 (bl (pt iv 256 256)))) := by
  intro w
  have hz : ∀ W : World, (Instr.alloc 42 true (.tuple #[])).run Try.prog W = .ok (.pointer (some ⟨W.heap.size, 0, none⟩)) (W.alloc (.cells (irow .u8 (bl (pt iv 256 0))) 42)) := by rw [← zr_pt]; exact z256
  have R0 := hp3_0 w (.cells (irow .u8 (bl (pt iv 256 0))) 42) (.cells (irow .u8 (bl (pt pw 256 1))) 42) (.cells (irow .u8 (bl (pt iv 256 0))) 42)
  have R1 := hp3_1 w (.cells (irow .u8 (bl (pt iv 256 0))) 42) (.cells (irow .u8 (bl (pt pw 256 1))) 42) (.cells (irow .u8 (bl (pt iv 256 0))) 42)
  have R2 := hp3_2 w (.cells (irow .u8 (bl (pt iv 256 0))) 42) (.cells (irow .u8 (bl (pt pw 256 1))) 42) (.cells (irow .u8 (bl (pt iv 256 0))) 42)
  have HW : Below w.heap.size w (((w.alloc (.cells (irow .u8 (bl (pt iv 256 0))) 42)).alloc (.cells (irow .u8 (bl (pt pw 256 1))) 42)).alloc (.cells (irow .u8 (bl (pt iv 256 0))) 42)) := ((((Below.refl _ _).alloc (Nat.le_refl _) _).alloc (by simp) _).alloc (by simp; omega) _)

  have hc0 := brow_at (pt iv 256 0) 0 (by rw [pt_len]; omega)
  have e1 : ((irow .u8 (bl (pt iv 256 0)))).setIfInBounds 0 (.int .u8 1) = (irow .u8 (bl (pt pw 256 1))) := by
    have := brow_put (pt iv 256 0) 0 (pw 0)
    rw [show pt iv 256 0 = pt pw 256 0 by rw [pt_zero, pt_zero], pt_set pw 256 0 (by omega), pw_zero] at this
    rw [← this, show pt iv 256 0 = pt pw 256 0 by rw [pt_zero, pt_zero]]; rfl
  go_enter Try.func30, Try.ntmps30
  go_wp2_with (first | (refine wpList_alloc rfl 42 rfl (irow .u8 (bl (pt iv 256 0))) hz ?_) | fail)
  clear hz hc0 e1
  generalize (((w.alloc (.cells (irow .u8 (bl (pt iv 256 0))) 42)).alloc (.cells (irow .u8 (bl (pt pw 256 1))) 42)).alloc (.cells (irow .u8 (bl (pt iv 256 0))) 42)) = w0 at *
  go_loopw [7] (fun i wr => ∃ k : Nat, k ≤ 255 ∧ i = .int .i64 k ∧ wr.heap[w.heap.size]? = some (.cells (irow .u8 (bl (pt iv 256 0))) 42 (0, 0)) ∧ wr.heap[w.heap.size + 1]? = some (.cells (irow .u8 (bl (pt pw 256 (k + 1)))) 42 (0, 0)) ∧ wr.heap[w.heap.size + 1 + 1]? = some (.cells (irow .u8 (bl (pt iv 256 0))) 42 (0, 0)) ∧ Below w.heap.size w wr) (fun i _ => 255 - (intOf i).toNat)
  case atStart => exact ⟨0, by omega, rfl, R0, R1, R2, HW⟩
  case round =>
    clear R0 R1 R2 HW
    obtain ⟨k, hk, rfl, r0, r1, r2, hw⟩ := hrel
    by_cases hlt : k < 255
    · have hd : decide ((k : Int) < 255) = true := by simp; omega
      have c0 := brow_cell r1 (j := k) (by rw [pt_len]; omega)
      rw [pt_get pw 256 (k + 1) (by omega) (by omega)] at c0
      have ct := a_twice (pw k)
      have hx := xor8 (pw k) (dbl (pw k))
      have hset := hide (pt_set pw 256 (k + 1) (by omega))
      rw [pw_succ k hlt] at hset
      have b0 := bnd (pw k)
      go_wp2_with (fail)
      have k0 : ∀ p : Regrown, (grow (redrawn wr p.d) p.os).cell? ⟨w.heap.size + 1, k, none⟩ = some (.int .u8 (bv (pw k))) := fun p => cell_regrown (c0) p.d p.os
      refine wp_region_tail (C := fun w' => ∃ p : Regrown, w' = grow (redrawn wr p.d) p.os) 11 _ rfl rfl rfl (by kernel_rfl) (by kernel_rfl) (by kernel_rfl) (by kernel_rfl) ⟨⟨wr.drawn + 1, #[]⟩, by rw [grow_empty]; rfl⟩ ?_
      dsimp only [List.set, idle]
      go_big_quiet_step (fail)
      go_big_quiet_step (fail)
      go_big_quiet_step (fail)
      go_big_quiet_step (fail)
      go_big_quiet_step (fail)
      go_big_quiet_step (fail)
      go_big_quiet_step (fail)
      go_big_quiet_step (fail)
      go_big_quiet_step (exact ct.re)
      go_big_quiet_step (fail)
      go_big_quiet_step (fail)
      refine wpQuiet_idle rfl rfl rfl ?_
      rintro _ ⟨p, rfl⟩
      have hb := below_regrown wr p.d p.os
      generalize grow (redrawn wr p.d) p.os = w1 at *
      clear k0
      replace r0 := keep hb r0
      replace r1 := keep hb r1
      replace r2 := keep hb r2
      replace hw := Below.after hw hb
      clear hb

      have c1 := brow_cell r1 (j := k + 1) (by rw [pt_len]; omega)
      have hf := row_frozen r1 (k + 1)
      clear c0 ct
      go_wp2
      refine ⟨⟨k + 1, by omega, by go_num, heap_other r0 (by omega), by rw [← hset.out]; exact brow_set r1 (k + 1) _, heap_other r2 (by omega), hw.setCell (show w.heap.size ≤ w.heap.size + 1 by omega) _⟩, by simp [intOf]; omega⟩
    · obtain rfl : k = 255 := by omega
      have hd : decide ((255 : Int) < 255) = false := by decide
      have hin := info256 (pt pw 256 256) (pt_len _ _ _)
      clear hk hlt
      go_wp2_with (first | (refine wpList_load_want rfl 42 _ rfl (w.heap.size + 1) rfl 42 (irow .u8 (bl (pt pw 256 256))) (0, 0) _ r1 Try.underlying42 rfl hin ?_) | fail)
      go_loopw [23] (fun i wr => ∃ k : Nat, k ≤ 256 ∧ i = .int .i64 k ∧ wr.heap[w.heap.size]? = some (.cells (irow .u8 (bl (pt iv 256 0))) 42 (0, 0)) ∧ wr.heap[w.heap.size + 1]? = some (.cells (irow .u8 (bl (pt pw 256 256))) 42 (0, 0)) ∧ wr.heap[w.heap.size + 1 + 1]? = some (.cells (irow .u8 (bl (ou k))) 42 (0, 0)) ∧ Below w.heap.size w wr) (fun i _ => 256 - (intOf i).toNat)
      case atStart => exact ⟨0, by omega, rfl, r0, r1, by rw [pt_zero] at r2; exact r2, hw⟩
      case round =>
        clear r0 r1 r2 hw hd hin
        obtain ⟨k, hk, rfl, r0, r1, r2, hw⟩ := hrel
        by_cases hlt : k < 256
        · have hd : decide ((k : Int) < 256) = true := by simp; omega
          have hix := index256 (pt pw 256 256) (pt_len _ _ _) k hlt wr
          rw [pt_get pw 256 256 (by omega) (by omega)] at hix
          have c0 := brow_cell r1 (j := 255 - k) (by rw [pt_len]; omega)
          rw [pt_get pw 256 256 (by omega) (by omega)] at c0
          have hp := bnd (pw k)
          have e5 : (255 - (k : Int)).toNat = 255 - k := by omega
          have e6 := bv_nat (pw k)
          have c1 := brow_cell r2 (j := (pw k).toNat) (by rw [ou, fil_len]; exact (pw k).isLt)
          have hf := row_frozen r2 (pw k).toNat
          go_wp2
          refine ⟨⟨k + 1, by omega, by go_num, heap_other r0 (by omega), heap_other r1 (by omega), brow_set r2 _ _, hw.setCell (show w.heap.size ≤ w.heap.size + 1 + 1 by omega) _⟩, by simp [intOf]; omega⟩
        · obtain rfl : k = 256 := by omega
          have hd : decide ((256 : Int) < 256) = false := by decide
          rw [ou_all] at r2
          have hin := info256 (pt iv 256 256) (pt_len _ _ _)
          have hfi := fit256 (pt iv 256 0) (pt iv 256 256) (pt_len _ _ _) (pt_len _ _ _)
          clear hk hlt
          go_wp2_with (first | (refine wpList_load_want rfl 42 _ rfl (w.heap.size + 1 + 1) rfl 42 (irow .u8 (bl (pt iv 256 256))) (0, 0) _ r2 Try.underlying42 rfl hin ?_) | (refine wpList_store_row rfl 42 _ _ rfl (w.heap.size) (irow .u8 (bl (pt iv 256 256))) rfl rfl 42 _ r0 hin hfi (irow_one _ _) ?_) | fail)
          replace r0 := setRow_heap wr (w.heap.size) _ (irow .u8 (bl (pt iv 256 256))) _ _ r0
          replace hw := below_setRow hw (Nat.le_refl _) (irow .u8 (bl (pt iv 256 256)))
          generalize wr.setRow (w.heap.size) (irow .u8 (bl (pt iv 256 256))) = w9 at *
          exact bodyPost_ret (v := .agg (irow .u8 (bl (pt iv 256 256)))) (results_cell_row Try.results30 _ _ (w.heap.size) _ _ _ _ rfl r0 Try.underlying42 rfl hin) rfl ⟨rfl, hw⟩

end Go.Proofs.Ytmldmlbmfbdjoab


namespace Go.Proofs.Ytmldmlbmfbdjoab
open Go Go.RowKit Go.Sort
attribute [local go_sem] setCell_drewN alloc_drewN

theorem e_rot4 : ∀ y : B, bits .or .u8 (bv y * 16 % 256) (bv y / 16) = bv (y.rotateLeft 4) := by decide +kernel
set_option maxHeartbeats 1000000 in
theorem a_rot4 (y : B) : Gives 39 #[.int .u8 (bv y), .int .i64 (-4)] (.int .u8 (bv (y.rotateLeft 4))) := by
  intro w
  have ha : bits .and .u64 (IntKind.u64.wrap (-4)) 7 = 4 := by decide +kernel
  have hb := bnd y
  have e := hide (e_rot4 y)
  generalize bv (y.rotateLeft 4) = z at *
  go_enter Try.func39, Try.ntmps39
  go_wp2_with (simp only [ha])
  go_ret
  obtain rfl := e.out
  exact ⟨rfl, Below.refl _ _⟩
theorem e_rot5 : ∀ y : B, bits .or .u8 (bv y * 8 % 256) (bv y / 32) = bv (y.rotateLeft 3) := by decide +kernel
set_option maxHeartbeats 1000000 in
theorem a_rot5 (y : B) : Gives 39 #[.int .u8 (bv y), .int .i64 (-5)] (.int .u8 (bv (y.rotateLeft 3))) := by
  intro w
  have ha : bits .and .u64 (IntKind.u64.wrap (-5)) 7 = 3 := by decide +kernel
  have hb := bnd y
  have e := hide (e_rot5 y)
  generalize bv (y.rotateLeft 3) = z at *
  go_enter Try.func39, Try.ntmps39
  go_wp2_with (simp only [ha])
  go_ret
  obtain rfl := e.out
  exact ⟨rfl, Below.refl _ _⟩
theorem e_rot6 : ∀ y : B, bits .or .u8 (bv y * 4 % 256) (bv y / 64) = bv (y.rotateLeft 2) := by decide +kernel
set_option maxHeartbeats 1000000 in
theorem a_rot6 (y : B) : Gives 39 #[.int .u8 (bv y), .int .i64 (-6)] (.int .u8 (bv (y.rotateLeft 2))) := by
  intro w
  have ha : bits .and .u64 (IntKind.u64.wrap (-6)) 7 = 2 := by decide +kernel
  have hb := bnd y
  have e := hide (e_rot6 y)
  generalize bv (y.rotateLeft 2) = z at *
  go_enter Try.func39, Try.ntmps39
  go_wp2_with (simp only [ha])
  go_ret
  obtain rfl := e.out
  exact ⟨rfl, Below.refl _ _⟩
theorem e_rot7 : ∀ y : B, bits .or .u8 (bv y * 2 % 256) (bv y / 128) = bv (y.rotateLeft 1) := by decide +kernel
set_option maxHeartbeats 1000000 in
theorem a_rot7 (y : B) : Gives 39 #[.int .u8 (bv y), .int .i64 (-7)] (.int .u8 (bv (y.rotateLeft 1))) := by
  intro w
  have ha : bits .and .u64 (IntKind.u64.wrap (-7)) 7 = 1 := by decide +kernel
  have hb := bnd y
  have e := hide (e_rot7 y)
  generalize bv (y.rotateLeft 1) = z at *
  go_enter Try.func39, Try.ntmps39
  go_wp2_with (simp only [ha])
  go_ret
  obtain rfl := e.out
  exact ⟨rfl, Below.refl _ _⟩
/-- Where a walk shall stop. -/
def WpStay (p : Prop) : Prop := p
theorem wpList_stay {P : Program} {ops : Array Oper} {rest : List Oper} {a : Act} {w : World} {Q : Exit → Act → World → Prop} (h : WpStay (wpList P ops Q rest a w)) : wpList P ops Q rest a w := h
set_option maxHeartbeats 1000000 in
theorem a_spread (y : B) : Gives 31 #[.int .u8 (bv y)] (.int .u8 (bv (spr y))) := by
  intro w
  have c4 := a_rot4 y
  have c5 := a_rot5 y
  have c6 := a_rot6 y
  have c7 := a_rot7 y
  have x1 := xor8 y (y.rotateLeft 4)
  have x2 := xor8 (y ^^^ y.rotateLeft 4) (y.rotateLeft 3)
  have x3 := xor8 (y ^^^ y.rotateLeft 4 ^^^ y.rotateLeft 3) (y.rotateLeft 2)
  have x4 := xor8 (y ^^^ y.rotateLeft 4 ^^^ y.rotateLeft 3 ^^^ y.rotateLeft 2) (y.rotateLeft 1)
  have x5 : bits .xor .u8 (bv (y ^^^ y.rotateLeft 4 ^^^ y.rotateLeft 3 ^^^ y.rotateLeft 2 ^^^ y.rotateLeft 1)) 99 = bv (spr y) := xor8 _ 0x63#8
  generalize y ^^^ y.rotateLeft 4 ^^^ y.rotateLeft 3 ^^^ y.rotateLeft 2 ^^^ y.rotateLeft 1 = y5 at *
  generalize y ^^^ y.rotateLeft 4 ^^^ y.rotateLeft 3 ^^^ y.rotateLeft 2 = y4 at *
  generalize y ^^^ y.rotateLeft 4 ^^^ y.rotateLeft 3 = y3 at *
  generalize y ^^^ y.rotateLeft 4 = y2 at *
  generalize y.rotateLeft 4 = r4 at *
  generalize y.rotateLeft 3 = r3 at *
  generalize y.rotateLeft 2 = r2 at *
  generalize y.rotateLeft 1 = r1 at *
  generalize spr y = sy at *
  go_enter Try.func31, Try.ntmps31
  go_wp2_with (fail)
  refine (c4.at _).mono ?_
  rintro e w4 ⟨rfl, hb4⟩
  go_wp2_with (fail)
  refine (c5.at _).mono ?_
  rintro e w5 ⟨rfl, hb5⟩
  go_wp2_with (fail)
  refine (c6.at _).mono ?_
  rintro e w6 ⟨rfl, hb6⟩
  go_wp2_with (fail)
  refine (c7.at _).mono ?_
  rintro e w7 ⟨rfl, hb7⟩
  go_wp2
  go_ret
  exact ⟨rfl, Below.after (Below.after (Below.after hb4 hb5) hb6) hb7⟩

/-- Sub and Back of every byte, in a row. -/
def sbl : List B := pt (fun x => sb (BitVec.ofNat 8 x)) 256 256
def bkl : List B := pt (fun x => bk (BitVec.ofNat 8 x)) 256 256
theorem sbl_len : sbl.length = 256 := pt_len _ _ _
theorem bkl_len : bkl.length = 256 := pt_len _ _ _
theorem sbl_get (x : B) : sbl.getD x.toNat 0#8 = sb x := by
  rw [sbl, pt_get _ _ _ x.isLt x.isLt, BitVec.ofNat_toNat, BitVec.setWidth_eq]
theorem bkl_get (x : B) : bkl.getD x.toNat 0#8 = bk x := by
  rw [bkl, pt_get _ _ _ x.isLt x.isLt, BitVec.ofNat_toNat, BitVec.setWidth_eq]
theorem of_bv (k : Nat) (h : k < 256) : bv (BitVec.ofNat 8 k) = (k : Int) := by
  unfold bv; rw [BitVec.toNat_ofNat]; omega
set_option maxRecDepth 100000 in
set_option maxHeartbeats 4000000 in
theorem a_boxes : Gives 16 #[] (.tuple #[.agg (irow .u8 (bl (sbl))), .agg (irow .u8 (bl (bkl)))]) := by
  intro w
  have hz : ∀ W : World, (Instr.alloc 42 true (.tuple #[])).run Try.prog W = .ok (.pointer (some ⟨W.heap.size, 0, none⟩)) (W.alloc (.cells (irow .u8 (bl (pt (fun x => sb (BitVec.ofNat 8 x)) 256 0))) 42)) := by rw [← zr_pt]; exact z256
  have R0 := hp2_0 w (.cells (irow .u8 (bl (pt (fun x => sb (BitVec.ofNat 8 x)) 256 0))) 42) (.cells (irow .u8 (bl (pt (fun x => sb (BitVec.ofNat 8 x)) 256 0))) 42)
  have R1 := hp2_1 w (.cells (irow .u8 (bl (pt (fun x => sb (BitVec.ofNat 8 x)) 256 0))) 42) (.cells (irow .u8 (bl (pt (fun x => sb (BitVec.ofNat 8 x)) 256 0))) 42)
  have HW : Below w.heap.size w ((w.alloc (.cells (irow .u8 (bl (pt (fun x => sb (BitVec.ofNat 8 x)) 256 0))) 42)).alloc (.cells (irow .u8 (bl (pt (fun x => sb (BitVec.ofNat 8 x)) 256 0))) 42)) := (((Below.refl _ _).alloc (Nat.le_refl _) _).alloc (by simp) _)

  have hin := a_inverses
  go_enter Try.func16, Try.ntmps16
  go_wp2_with (first | (refine wpList_alloc rfl 42 rfl (irow .u8 (bl (pt (fun x => sb (BitVec.ofNat 8 x)) 256 0))) hz ?_) | fail)
  clear hz
  generalize ((w.alloc (.cells (irow .u8 (bl (pt (fun x => sb (BitVec.ofNat 8 x)) 256 0))) 42)).alloc (.cells (irow .u8 (bl (pt (fun x => sb (BitVec.ofNat 8 x)) 256 0))) 42)) = w0 at *
  refine (hin.at _).mono ?_
  rintro e_ w1 ⟨rfl, hb⟩
  replace R0 := keep hb R0
  replace R1 := keep hb R1
  replace HW := Below.after HW hb
  clear hb hin
  go_wp2_with (fail)
  go_loopw [6] (fun i wr => ∃ k : Nat, k ≤ 256 ∧ i = .int .i64 k ∧ wr.heap[w.heap.size]? = some (.cells (irow .u8 (bl (pt (fun x => sb (BitVec.ofNat 8 x)) 256 k))) 42 (0, 0)) ∧ wr.heap[w.heap.size + 1]? = some (.cells (irow .u8 (bl (bo k))) 42 (0, 0)) ∧ Below w.heap.size w wr) (fun i _ => 256 - (intOf i).toNat)
  case atStart => exact ⟨0, by omega, rfl, R0, by rw [pt_zero] at R1; exact R1, HW⟩
  case round =>
    clear R0 R1 HW
    obtain ⟨k, hk, rfl, r0, r1, hw⟩ := hrel
    by_cases hlt : k < 256
    · have hd : decide ((k : Int) < 256) = true := by simp; omega
      have hix := index256 (pt iv 256 256) (pt_len _ _ _) k hlt wr
      rw [pt_get iv 256 256 (by omega) (by omega)] at hix
      have cs := a_spread (iv k)
      rw [← sb_spr k hlt] at cs
      have hset := hide (pt_set (fun x => sb (BitVec.ofNat 8 x)) 256 k hlt)
      have e6 := bv_nat (sb (BitVec.ofNat 8 k))
      have b6 := bnd (sb (BitVec.ofNat 8 k))
      have ek := of_bv k hlt
      go_wp2_with (fail)
      refine (cs.at _).mono ?_
      rintro e_ w1 ⟨rfl, hb⟩
      replace r0 := keep hb r0
      replace r1 := keep hb r1
      replace hw := Below.after hw hb
      clear hb cs hix
      have c0 := brow_cell r0 (j := k) (by rw [pt_len]; exact hlt)
      have hf0 := row_frozen r0 k
      have hn1 := heap_other (j := k) (v := .int .u8 (bv (sb (BitVec.ofNat 8 k)))) r1 (show w.heap.size + 1 ≠ w.heap.size by omega)
      have c1 := brow_cell hn1 (j := (sb (BitVec.ofNat 8 k)).toNat) (by rw [bo, fil_len]; exact (sb (BitVec.ofNat 8 k)).isLt)
      have hf1 := row_frozen hn1 (sb (BitVec.ofNat 8 k)).toNat
      replace hn1 := hide hn1
      go_wp2
      refine ⟨⟨k + 1, by omega, by go_num, heap_other (by rw [← hset.out]; exact brow_set r0 k _) (by omega), ?_, (hw.setCell (Nat.le_refl _) _).setCell (show w.heap.size ≤ w.heap.size + 1 by omega) _⟩, by simp [intOf]; omega⟩
      have := brow_set hn1.out (sb (BitVec.ofNat 8 k)).toNat (BitVec.ofNat 8 k)
      rw [ek] at this
      exact this
    · obtain rfl : k = 256 := by omega
      have hd : decide ((256 : Int) < 256) = false := by decide
      rw [bo_all] at r1
      replace r0 : wr.heap[w.heap.size]? = some (.cells (irow .u8 (bl (sbl))) 42 (0, 0)) := r0
      replace r1 : wr.heap[w.heap.size + 1]? = some (.cells (irow .u8 (bl (bkl))) 42 (0, 0)) := r1
      have hi0 := info256 sbl sbl_len
      have hi1 := info256 bkl bkl_len
      clear hk hlt
      go_wp2_with (fail)
      have hbd : Below wr.heap.size wr wr.drew := below_drN (Below.refl _ _) 1
      replace r0 := keep hbd r0
      replace r1 := keep hbd r1
      replace hw := Below.after hw hbd
      clear hbd
      refine wp_region_noPanic ?_
      refine wp_region_any (by kernel_rfl) ?_
      change wpAny _ _ _ _ _ _ _ (World.drew _)
      generalize wr.drew = wd at *
      refine wpAny_ready (rs := [0, 1]) (fuel := 3) (by kernel_rfl) (by simp) (AllReady.cons rfl (fun K' hK => ?_) (AllReady.cons rfl (fun K' hK => ?_) AllReady.nil))
      · rw [if_pos (by kernel_rfl)]
        simp only [List.getElem_toArray, List.getElem_cons_zero]
        refine wp_load_row 42 _ rfl (w.heap.size) rfl 42 (irow .u8 (bl (sbl))) (0, 0) _ (r0) Try.underlying42 rfl hi0 (hK _ _ ?_)
        simp only [Act.put, List.setIfInBounds_toArray, List.set_cons_succ, List.set_cons_zero]
        clear hK
        refine wpAny_ready (rs := [1, 2]) (fuel := 2) (by kernel_rfl) (by simp) (AllReady.cons rfl (fun K' hK => ?_) (AllReady.cons rfl (fun K' hK => ?_) AllReady.nil))
        · rw [if_pos (by kernel_rfl)]
          simp only [List.getElem_toArray, List.getElem_cons_succ, List.getElem_cons_zero]
          refine wp_load_row 42 _ rfl (w.heap.size + 1) rfl 42 (irow .u8 (bl (bkl))) (0, 0) _ (r1) Try.underlying42 rfl hi1 (hK _ _ ?_)
          simp only [Act.put, List.setIfInBounds_toArray, List.set_cons_succ, List.set_cons_zero]
          clear hK
          refine wpAny_ready (rs := [2]) (fuel := 1) (by kernel_rfl) (by simp) (AllReady.cons rfl (fun K' hK => ?_) AllReady.nil)
          rw [if_pos (by kernel_rfl)]
          simp only [List.getElem_toArray, List.getElem_cons_succ, List.getElem_cons_zero]
          refine wp_store_row 42 _ _ rfl (w.heap.size) (irow .u8 (bl (sbl))) rfl rfl 42 _ r0 hi0 rfl (irow_one _ _) (hK _ _ ?_)
          simp only [Act.put]
          clear hK
          replace r1 := (setRow_other wd (w.heap.size) (w.heap.size + 1) (irow .u8 (bl (sbl))) (by omega)).trans r1
          replace r0 := setRow_heap wd (w.heap.size) _ (irow .u8 (bl (sbl))) _ _ r0
          replace hw := below_setRow hw (show w.heap.size ≤ w.heap.size by omega) (irow .u8 (bl (sbl)))
          generalize wd.setRow (w.heap.size) (irow .u8 (bl (sbl))) = q1 at *
          refine wpAny_ready (rs := [3]) (fuel := 0) (by kernel_rfl) (by simp) (AllReady.cons rfl (fun K' hK => ?_) AllReady.nil)
          rw [if_pos (by kernel_rfl)]
          simp only [List.getElem_toArray, List.getElem_cons_succ, List.getElem_cons_zero]
          refine wp_store_row 42 _ _ rfl (w.heap.size + 1) (irow .u8 (bl (bkl))) rfl rfl 42 _ r1 hi1 rfl (irow_one _ _) (hK _ _ ?_)
          simp only [Act.put]
          clear hK
          replace r0 := (setRow_other q1 (w.heap.size + 1) (w.heap.size) (irow .u8 (bl (bkl))) (by omega)).trans r0
          replace r1 := setRow_heap q1 (w.heap.size + 1) _ (irow .u8 (bl (bkl))) _ _ r1
          replace hw := below_setRow hw (show w.heap.size ≤ w.heap.size + 1 by omega) (irow .u8 (bl (bkl)))
          generalize q1.setRow (w.heap.size + 1) (irow .u8 (bl (bkl))) = q2 at *
          refine wpAny_done (by kernel_rfl) ?_ _
          refine NoPanic.normal ?_
          go_wp2_with (fail)
          exact bodyPost_ret (v := .tuple #[.agg (irow .u8 (bl (sbl))), .agg (irow .u8 (bl (bkl)))]) (results_rows2 Try.results16 _ _ (w.heap.size) (w.heap.size + 1) _ _ _ _ _ _ _ _ rfl r0 rfl r1 Try.underlying42 rfl hi0 Try.underlying42 rfl hi1) rfl ⟨rfl, hw⟩
        · rw [if_pos (by kernel_rfl)]
          simp only [List.getElem_toArray, List.getElem_cons_succ, List.getElem_cons_zero]
          refine wp_store_row 42 _ _ rfl (w.heap.size) (irow .u8 (bl (sbl))) rfl rfl 42 _ r0 hi0 rfl (irow_one _ _) (hK _ _ ?_)
          simp only [Act.put]
          clear hK
          replace r1 := (setRow_other wd (w.heap.size) (w.heap.size + 1) (irow .u8 (bl (sbl))) (by omega)).trans r1
          replace r0 := setRow_heap wd (w.heap.size) _ (irow .u8 (bl (sbl))) _ _ r0
          replace hw := below_setRow hw (show w.heap.size ≤ w.heap.size by omega) (irow .u8 (bl (sbl)))
          generalize wd.setRow (w.heap.size) (irow .u8 (bl (sbl))) = q3 at *
          refine wpAny_ready (rs := [1]) (fuel := 1) (by kernel_rfl) (by simp) (AllReady.cons rfl (fun K' hK => ?_) AllReady.nil)
          rw [if_pos (by kernel_rfl)]
          simp only [List.getElem_toArray, List.getElem_cons_succ, List.getElem_cons_zero]
          refine wp_load_row 42 _ rfl (w.heap.size + 1) rfl 42 (irow .u8 (bl (bkl))) (0, 0) _ (r1) Try.underlying42 rfl hi1 (hK _ _ ?_)
          simp only [Act.put, List.setIfInBounds_toArray, List.set_cons_succ, List.set_cons_zero]
          clear hK
          refine wpAny_ready (rs := [3]) (fuel := 0) (by kernel_rfl) (by simp) (AllReady.cons rfl (fun K' hK => ?_) AllReady.nil)
          rw [if_pos (by kernel_rfl)]
          simp only [List.getElem_toArray, List.getElem_cons_succ, List.getElem_cons_zero]
          refine wp_store_row 42 _ _ rfl (w.heap.size + 1) (irow .u8 (bl (bkl))) rfl rfl 42 _ r1 hi1 rfl (irow_one _ _) (hK _ _ ?_)
          simp only [Act.put]
          clear hK
          replace r0 := (setRow_other q3 (w.heap.size + 1) (w.heap.size) (irow .u8 (bl (bkl))) (by omega)).trans r0
          replace r1 := setRow_heap q3 (w.heap.size + 1) _ (irow .u8 (bl (bkl))) _ _ r1
          replace hw := below_setRow hw (show w.heap.size ≤ w.heap.size + 1 by omega) (irow .u8 (bl (bkl)))
          generalize q3.setRow (w.heap.size + 1) (irow .u8 (bl (bkl))) = q4 at *
          refine wpAny_done (by kernel_rfl) ?_ _
          refine NoPanic.normal ?_
          go_wp2_with (fail)
          exact bodyPost_ret (v := .tuple #[.agg (irow .u8 (bl (sbl))), .agg (irow .u8 (bl (bkl)))]) (results_rows2 Try.results16 _ _ (w.heap.size) (w.heap.size + 1) _ _ _ _ _ _ _ _ rfl r0 rfl r1 Try.underlying42 rfl hi0 Try.underlying42 rfl hi1) rfl ⟨rfl, hw⟩
      · rw [if_pos (by kernel_rfl)]
        simp only [List.getElem_toArray, List.getElem_cons_succ, List.getElem_cons_zero]
        refine wp_load_row 42 _ rfl (w.heap.size + 1) rfl 42 (irow .u8 (bl (bkl))) (0, 0) _ (r1) Try.underlying42 rfl hi1 (hK _ _ ?_)
        simp only [Act.put, List.setIfInBounds_toArray, List.set_cons_succ, List.set_cons_zero]
        clear hK
        refine wpAny_ready (rs := [0]) (fuel := 2) (by kernel_rfl) (by simp) (AllReady.cons rfl (fun K' hK => ?_) AllReady.nil)
        rw [if_pos (by kernel_rfl)]
        simp only [List.getElem_toArray, List.getElem_cons_zero]
        refine wp_load_row 42 _ rfl (w.heap.size) rfl 42 (irow .u8 (bl (sbl))) (0, 0) _ (r0) Try.underlying42 rfl hi0 (hK _ _ ?_)
        simp only [Act.put, List.setIfInBounds_toArray, List.set_cons_succ, List.set_cons_zero]
        clear hK
        refine wpAny_ready (rs := [2]) (fuel := 1) (by kernel_rfl) (by simp) (AllReady.cons rfl (fun K' hK => ?_) AllReady.nil)
        rw [if_pos (by kernel_rfl)]
        simp only [List.getElem_toArray, List.getElem_cons_succ, List.getElem_cons_zero]
        refine wp_store_row 42 _ _ rfl (w.heap.size) (irow .u8 (bl (sbl))) rfl rfl 42 _ r0 hi0 rfl (irow_one _ _) (hK _ _ ?_)
        simp only [Act.put]
        clear hK
        replace r1 := (setRow_other wd (w.heap.size) (w.heap.size + 1) (irow .u8 (bl (sbl))) (by omega)).trans r1
        replace r0 := setRow_heap wd (w.heap.size) _ (irow .u8 (bl (sbl))) _ _ r0
        replace hw := below_setRow hw (show w.heap.size ≤ w.heap.size by omega) (irow .u8 (bl (sbl)))
        generalize wd.setRow (w.heap.size) (irow .u8 (bl (sbl))) = q5 at *
        refine wpAny_ready (rs := [3]) (fuel := 0) (by kernel_rfl) (by simp) (AllReady.cons rfl (fun K' hK => ?_) AllReady.nil)
        rw [if_pos (by kernel_rfl)]
        simp only [List.getElem_toArray, List.getElem_cons_succ, List.getElem_cons_zero]
        refine wp_store_row 42 _ _ rfl (w.heap.size + 1) (irow .u8 (bl (bkl))) rfl rfl 42 _ r1 hi1 rfl (irow_one _ _) (hK _ _ ?_)
        simp only [Act.put]
        clear hK
        replace r0 := (setRow_other q5 (w.heap.size + 1) (w.heap.size) (irow .u8 (bl (bkl))) (by omega)).trans r0
        replace r1 := setRow_heap q5 (w.heap.size + 1) _ (irow .u8 (bl (bkl))) _ _ r1
        replace hw := below_setRow hw (show w.heap.size ≤ w.heap.size + 1 by omega) (irow .u8 (bl (bkl)))
        generalize q5.setRow (w.heap.size + 1) (irow .u8 (bl (bkl))) = q6 at *
        refine wpAny_done (by kernel_rfl) ?_ _
        refine NoPanic.normal ?_
        go_wp2_with (fail)
        exact bodyPost_ret (v := .tuple #[.agg (irow .u8 (bl (sbl))), .agg (irow .u8 (bl (bkl)))]) (results_rows2 Try.results16 _ _ (w.heap.size) (w.heap.size + 1) _ _ _ _ _ _ _ _ rfl r0 rfl r1 Try.underlying42 rfl hi0 Try.underlying42 rfl hi1) rfl ⟨rfl, hw⟩


end Go.Proofs.Ytmldmlbmfbdjoab


namespace Go.Proofs.Ytmldmlbmfbdjoab
open Go Go.RowKit Go.Sort
/-! Four bytes as a word. -/
def wd (a b c d : B) : BitVec 32 := (a ++ b ++ c ++ d : BitVec (8 + 8 + 8 + 8))
def wv (x : BitVec 32) : Int := (x.toNat : Int)
theorem wd_nat (a b c d : B) : (wd a b c d).toNat = ((a.toNat * 256 + b.toNat) * 256 + c.toNat) * 256 + d.toNat := by
  have h1 := a.isLt; have h2 := b.isLt; have h3 := c.isLt; have h4 := d.isLt
  unfold wd
  simp only [BitVec.toNat_append]
  rw [← Nat.shiftLeft_add_eq_or_of_lt (by omega), ← Nat.shiftLeft_add_eq_or_of_lt (by omega), ← Nat.shiftLeft_add_eq_or_of_lt (by omega)]
  simp only [Nat.shiftLeft_eq]
theorem wv_wd (a b c d : B) : wv (wd a b c d) = ((bv a * 256 + bv b) * 256 + bv c) * 256 + bv d := by
  unfold wv bv
  rw [wd_nat]; simp
theorem wnd (x : BitVec 32) : 0 ≤ wv x ∧ wv x < 4294967296 := by
  have := x.isLt
  unfold wv
  omega
theorem xor32 (a b : BitVec 32) : bits .xor .u32 (wv a) (wv b) = wv (a ^^^ b) := by
  show IntKind.u32.wrap ((BitVec.ofInt 32 a.toNat ^^^ BitVec.ofInt 32 b.toNat).toNat : Int) = _
  rw [ofInt_toNat, ofInt_toNat, wrap32]; rfl
theorem or32 (a b : BitVec 32) : bits .or .u32 (wv a) (wv b) = wv (a ||| b) := by
  show IntKind.u32.wrap ((BitVec.ofInt 32 a.toNat ||| BitVec.ofInt 32 b.toNat).toNat : Int) = _
  rw [ofInt_toNat, ofInt_toNat, wrap32]; rfl
theorem and32 (a b : BitVec 32) : bits .and .u32 (wv a) (wv b) = wv (a &&& b) := by
  show IntKind.u32.wrap ((BitVec.ofInt 32 a.toNat &&& BitVec.ofInt 32 b.toNat).toNat : Int) = _
  rw [ofInt_toNat, ofInt_toNat, wrap32]; rfl
theorem wv_inj {a b : BitVec 32} (h : wv a = wv b) : a = b := by
  apply BitVec.eq_of_toNat_eq; unfold wv at h; omega
theorem wd_xor (a b c d a' b' c' d' : B) : wd a b c d ^^^ wd a' b' c' d' = wd (a ^^^ a') (b ^^^ b') (c ^^^ c') (d ^^^ d') := by
  unfold wd
  rw [BitVec.xor_append, BitVec.xor_append, BitVec.xor_append]
theorem wd_and (a b c d a' b' c' d' : B) : wd a b c d &&& wd a' b' c' d' = wd (a &&& a') (b &&& b') (c &&& c') (d &&& d') := by
  unfold wd
  rw [BitVec.and_append, BitVec.and_append, BitVec.and_append]
theorem wd_or (a b c d a' b' c' d' : B) : wd a b c d ||| wd a' b' c' d' = wd (a ||| a') (b ||| b') (c ||| c') (d ||| d') := by
  unfold wd
  rw [BitVec.or_append, BitVec.or_append, BitVec.or_append]
theorem bv0 : bv 0#8 = 0 := rfl
/-- Put together: byte by byte. -/
theorem wd_hi (a : B) : bv a * 16777216 = wv (wd a 0#8 0#8 0#8) := by rw [wv_wd, bv0]; omega
theorem wd_b (a : B) : bv a * 65536 = wv (wd 0#8 a 0#8 0#8) := by rw [wv_wd, bv0]; omega
theorem wd_c (a : B) : bv a * 256 = wv (wd 0#8 0#8 a 0#8) := by rw [wv_wd, bv0]; omega
theorem wd_lo (a : B) : bv a = wv (wd 0#8 0#8 0#8 a) := by rw [wv_wd, bv0]; omega
theorem wd_shl (a b c d : B) : wv (wd a b c d) * 256 % 4294967296 = wv (wd b c d 0#8) := by
  have h1 := bnd a; have h2 := bnd b; have h3 := bnd c; have h4 := bnd d
  rw [wv_wd, wv_wd, bv0]; omega
/-- Taken apart. -/
theorem wd_a_of (a b c d : B) : wv (wd a b c d) / 16777216 = bv a := by
  have h1 := bnd a; have h2 := bnd b; have h3 := bnd c; have h4 := bnd d
  rw [wv_wd]; omega
theorem wd_b_of (a b c d : B) : wv (wd a b c d) / 65536 % 256 = bv b := by
  have h1 := bnd a; have h2 := bnd b; have h3 := bnd c; have h4 := bnd d
  rw [wv_wd]; omega
theorem wd_c_of (a b c d : B) : wv (wd a b c d) / 256 % 256 = bv c := by
  have h1 := bnd a; have h2 := bnd b; have h3 := bnd c; have h4 := bnd d
  rw [wv_wd]; omega
theorem wd_d_of (a b c d : B) : wv (wd a b c d) % 256 = bv d := by
  have h1 := bnd a; have h2 := bnd b; have h3 := bnd c; have h4 := bnd d
  rw [wv_wd]; omega
/-- Every word is four bytes. -/
def w0 (x : BitVec 32) : B := BitVec.ofNat 8 (x.toNat / 16777216)
def w1 (x : BitVec 32) : B := BitVec.ofNat 8 (x.toNat / 65536)
def w2 (x : BitVec 32) : B := BitVec.ofNat 8 (x.toNat / 256)
def w3 (x : BitVec 32) : B := BitVec.ofNat 8 x.toNat
theorem wd_all (x : BitVec 32) : x = wd (w0 x) (w1 x) (w2 x) (w3 x) := by
  have := x.isLt
  apply BitVec.eq_of_toNat_eq
  rw [wd_nat]
  simp only [w0, w1, w2, w3, BitVec.toNat_ofNat]
  omega
theorem wd_eq {a b c d a' b' c' d' : B} (h : wd a b c d = wd a' b' c' d') : a = a' ∧ b = b' ∧ c = c' ∧ d = d' := by
  have e := congrArg BitVec.toNat h
  rw [wd_nat, wd_nat] at e
  have h1 := a.isLt; have h2 := b.isLt; have h3 := c.isLt; have h4 := d.isLt
  have g1 := a'.isLt; have g2 := b'.isLt; have g3 := c'.isLt; have g4 := d'.isLt
  refine ⟨?_, ?_, ?_, ?_⟩ <;> apply BitVec.eq_of_toNat_eq <;> omega
/-- Turned to the left. -/
theorem or_add {x y : Nat} (i : Nat) (a : Nat) (hx : x = a * 2 ^ i) (hy : y < 2 ^ i) : x ||| y = x + y := by
  subst hx
  rw [← Nat.shiftLeft_eq, Nat.shiftLeft_add_eq_or_of_lt hy]
theorem wd_left1 (a b c d : B) : bits .or .u32 (wv (wd a b c d) * 256 % 4294967296) (wv (wd a b c d) / 16777216) = wv (wd b c d a) := by
  rw [wd_shl, wd_a_of, wd_lo, or32, wd_or]; simp
theorem wd_shl2 (a b c d : B) : wv (wd a b c d) * 65536 % 4294967296 = wv (wd c d 0#8 0#8) := by
  have h1 := bnd a; have h2 := bnd b; have h3 := bnd c; have h4 := bnd d
  rw [wv_wd, wv_wd, bv0]; omega
theorem wd_shl3 (a b c d : B) : wv (wd a b c d) * 16777216 % 4294967296 = wv (wd d 0#8 0#8 0#8) := by
  have h1 := bnd a; have h2 := bnd b; have h3 := bnd c; have h4 := bnd d
  rw [wv_wd, wv_wd, bv0]; omega
theorem wd_shr2 (a b c d : B) : wv (wd a b c d) / 65536 = wv (wd 0#8 0#8 a b) := by
  have h1 := bnd a; have h2 := bnd b; have h3 := bnd c; have h4 := bnd d
  rw [wv_wd, wv_wd, bv0]; omega
theorem wd_shr3 (a b c d : B) : wv (wd a b c d) / 256 = wv (wd 0#8 a b c) := by
  have h1 := bnd a; have h2 := bnd b; have h3 := bnd c; have h4 := bnd d
  rw [wv_wd, wv_wd, bv0]; omega
theorem wd_left2 (a b c d : B) : bits .or .u32 (wv (wd a b c d) * 65536 % 4294967296) (wv (wd a b c d) / 65536) = wv (wd c d a b) := by
  rw [wd_shl2, wd_shr2, or32, wd_or]; simp
theorem wd_left3 (a b c d : B) : bits .or .u32 (wv (wd a b c d) * 16777216 % 4294967296) (wv (wd a b c d) / 256) = wv (wd d a b c) := by
  rw [wd_shl3, wd_shr3, or32, wd_or]; simp
/-- The doubles of four bytes at once. -/
theorem wd_shr7 (a b c d : B) : bits .and .u32 (wv (wd a b c d) / 128) 16843009 = wv (wd (a >>> 7) (b >>> 7) (c >>> 7) (d >>> 7)) := by
  have e : (16843009 : Int) = wv (wd 1#8 1#8 1#8 1#8) := by decide +kernel
  have e2 : wv (wd a b c d) / (128 : Int) = wv (wd (a >>> 7) ((a <<< 1) ||| (b >>> 7)) ((b <<< 1) ||| (c >>> 7)) ((c <<< 1) ||| (d >>> 7))) := by
    have h : ∀ a b : B, bv ((a <<< 1) ||| (b >>> 7)) = bv a % 128 * 2 + bv b / 128 := by
      intro a b
      unfold bv
      rw [BitVec.toNat_or, BitVec.toNat_shiftLeft, BitVec.toNat_ushiftRight]
      have h1 := a.isLt; have h2 := b.isLt
      rw [or_add 1 (a.toNat % 128) (by rw [Nat.shiftLeft_eq]; omega) (by rw [Nat.shiftRight_eq_div_pow]; omega), Nat.shiftLeft_eq, Nat.shiftRight_eq_div_pow]
      omega
    have h0 : bv (a >>> 7) = bv a / 128 := by
      unfold bv
      rw [BitVec.toNat_ushiftRight, Nat.shiftRight_eq_div_pow]; rfl
    have h1 := bnd a; have h2 := bnd b; have h3 := bnd c; have h4 := bnd d
    rw [wv_wd, wv_wd, h, h, h, h0]; omega
  have k : ∀ a b : B, ((a <<< 1) ||| (b >>> 7)) &&& 1#8 = b >>> 7 := by
    intro a b
    apply bv_inj.1
    have h1 := bnd a; have h2 := bnd b
    have q : ∀ x : B, bv (x &&& 1#8) = bv x % 2 := fun x => by
      unfold bv
      rw [BitVec.toNat_and, show BitVec.toNat 1#8 = 1 from rfl, Nat.and_one_is_mod]; rfl
    have h0 : bv (b >>> 7) = bv b / 128 := by
      unfold bv
      rw [BitVec.toNat_ushiftRight, Nat.shiftRight_eq_div_pow]; rfl
    have h : bv ((a <<< 1) ||| (b >>> 7)) = bv a % 128 * 2 + bv b / 128 := by
      unfold bv
      rw [BitVec.toNat_or, BitVec.toNat_shiftLeft, BitVec.toNat_ushiftRight]
      have h1 := a.isLt; have h2 := b.isLt
      rw [or_add 1 (a.toNat % 128) (by rw [Nat.shiftLeft_eq]; omega) (by rw [Nat.shiftRight_eq_div_pow]; omega), Nat.shiftLeft_eq, Nat.shiftRight_eq_div_pow]
      omega
    rw [q, h, h0]; omega
  have k0 : (a >>> 7) &&& 1#8 = a >>> 7 := (by decide +kernel : ∀ a : B, (a >>> 7) &&& 1#8 = a >>> 7) a
  rw [e, e2, and32, wd_and, k, k, k, k0]
theorem wd_and7f (a b c d : B) : bits .and .u32 (wv (wd a b c d)) 2139062143 = wv (wd (a &&& 0x7f#8) (b &&& 0x7f#8) (c &&& 0x7f#8) (d &&& 0x7f#8)) := by
  rw [show (2139062143 : Int) = wv (wd 0x7f#8 0x7f#8 0x7f#8 0x7f#8) by decide +kernel, and32, wd_and]
theorem wd_shl1 (a b c d : B) : wv (wd (a &&& 0x7f#8) (b &&& 0x7f#8) (c &&& 0x7f#8) (d &&& 0x7f#8)) * 2 % 4294967296 = wv (wd (a <<< 1) (b <<< 1) (c <<< 1) (d <<< 1)) := by
  have h : ∀ a : B, bv (a <<< 1) = bv (a &&& 0x7f#8) * 2 ∧ 0 ≤ bv (a &&& 0x7f#8) ∧ bv (a &&& 0x7f#8) < 128 := by decide +kernel
  have h1 := h a; have h2 := h b; have h3 := h c; have h4 := h d
  rw [wv_wd, wv_wd]; omega
theorem wd_mul (a b c d : B) : wv (wd (a >>> 7) (b >>> 7) (c >>> 7) (d >>> 7)) * 27 % 4294967296 = wv (wd ((a >>> 7) * 27#8) ((b >>> 7) * 27#8) ((c >>> 7) * 27#8) ((d >>> 7) * 27#8)) := by
  have h : ∀ a : B, bv ((a >>> 7) * 27#8) = bv (a >>> 7) * 27 ∧ 0 ≤ bv (a >>> 7) ∧ bv (a >>> 7) < 2 := by decide +kernel
  have h1 := h a; have h2 := h b; have h3 := h c; have h4 := h d
  rw [wv_wd, wv_wd]; omega
theorem wd_dbl (a b c d : B) : bits .xor .u32 (wv (wd (a <<< 1) (b <<< 1) (c <<< 1) (d <<< 1))) (wv (wd ((a >>> 7) * 27#8) ((b >>> 7) * 27#8) ((c >>> 7) * 27#8) ((d >>> 7) * 27#8))) = wv (wd (dbl a) (dbl b) (dbl c) (dbl d)) := by
  rw [xor32, wd_xor]; rfl
/-- Masks. -/
theorem wd_mask0 (a b c d : B) : bits .and .u32 (wv (wd a b c d)) 4278190080 = wv (wd a 0#8 0#8 0#8) := by
  rw [show (4278190080 : Int) = wv (wd 0xff#8 0#8 0#8 0#8) by decide +kernel, and32, wd_and, show (0xff#8 : B) = BitVec.allOnes 8 from rfl, BitVec.and_allOnes]; simp
theorem wd_mask1 (a b c d : B) : bits .and .u32 (wv (wd a b c d)) 16711680 = wv (wd 0#8 b 0#8 0#8) := by
  rw [show (16711680 : Int) = wv (wd 0#8 0xff#8 0#8 0#8) by decide +kernel, and32, wd_and, show (0xff#8 : B) = BitVec.allOnes 8 from rfl, BitVec.and_allOnes]; simp
theorem wd_mask2 (a b c d : B) : bits .and .u32 (wv (wd a b c d)) 65280 = wv (wd 0#8 0#8 c 0#8) := by
  rw [show (65280 : Int) = wv (wd 0#8 0#8 0xff#8 0#8) by decide +kernel, and32, wd_and, show (0xff#8 : B) = BitVec.allOnes 8 from rfl, BitVec.and_allOnes]; simp
theorem wd_mask3 (a b c d : B) : bits .and .u32 (wv (wd a b c d)) 255 = wv (wd 0#8 0#8 0#8 d) := by
  rw [show (255 : Int) = wv (wd 0#8 0#8 0#8 0xff#8) by decide +kernel, and32, wd_and, show (0xff#8 : B) = BitVec.allOnes 8 from rfl, BitVec.and_allOnes]; simp
end Go.Proofs.Ytmldmlbmfbdjoab

namespace Go.Proofs.Ytmldmlbmfbdjoab
open Go Go.RowKit Go.Sort

/-! Blocks as lists of sixteen bytes, and what is done on them. -/
theorem ext16 {l m : List B} (hl : l.length = 16) (hm : m.length = 16) (h : ∀ i < 16, l.getD i 0#8 = m.getD i 0#8) : l = m := by
  apply List.ext_getElem (by omega)
  intro i h1 h2
  have := h i (by omega)
  rwa [List.getD_eq_getElem?_getD, List.getElem?_eq_getElem h1, List.getD_eq_getElem?_getD, List.getElem?_eq_getElem h2] at this
def mk16 (f : Nat → B) : List B := pt f 16 16
theorem mk16_len (f : Nat → B) : (mk16 f).length = 16 := pt_len _ _ _
theorem mk16_get (f : Nat → B) {i : Nat} (h : i < 16) : (mk16 f).getD i 0#8 = f i := pt_get f 16 16 h h
def xorL (a b : List B) : List B := mk16 fun i => a.getD i 0#8 ^^^ b.getD i 0#8
def subL (l : List B) : List B := mk16 fun i => sb (l.getD i 0#8)
def unsubL (l : List B) : List B := mk16 fun i => bk (l.getD i 0#8)
def shiftL (l : List B) : List B := mk16 fun i => l.getD (i % 4 + 4 * ((i / 4 + i % 4) % 4)) 0#8
def unshiftL (l : List B) : List B := mk16 fun i => l.getD (i % 4 + 4 * ((i / 4 + 4 - i % 4) % 4)) 0#8
/-- The byte r of the column c, around and around. -/
def mg (l : List B) (c r : Nat) : B := l.getD (4 * c + r % 4) 0#8
def mixL (l : List B) : List B := mk16 fun i => dbl (mg l (i / 4) (i % 4)) ^^^ dbl (mg l (i / 4) (i % 4 + 1)) ^^^ mg l (i / 4) (i % 4 + 1) ^^^ mg l (i / 4) (i % 4 + 2) ^^^ mg l (i / 4) (i % 4 + 3)
def unmixL (l : List B) : List B := mixL (mixL (mixL l))
theorem xorL_get (a b : List B) {i : Nat} (h : i < 16) : (xorL a b).getD i 0#8 = a.getD i 0#8 ^^^ b.getD i 0#8 := mk16_get _ h
theorem subL_get (l : List B) {i : Nat} (h : i < 16) : (subL l).getD i 0#8 = sb (l.getD i 0#8) := mk16_get _ h
theorem unsubL_get (l : List B) {i : Nat} (h : i < 16) : (unsubL l).getD i 0#8 = bk (l.getD i 0#8) := mk16_get _ h
theorem shiftL_get (l : List B) {i : Nat} (h : i < 16) : (shiftL l).getD i 0#8 = l.getD (i % 4 + 4 * ((i / 4 + i % 4) % 4)) 0#8 := mk16_get _ h
theorem unshiftL_get (l : List B) {i : Nat} (h : i < 16) : (unshiftL l).getD i 0#8 = l.getD (i % 4 + 4 * ((i / 4 + 4 - i % 4) % 4)) 0#8 := mk16_get _ h
theorem xorL_len (a b : List B) : (xorL a b).length = 16 := mk16_len _
theorem subL_len (l : List B) : (subL l).length = 16 := mk16_len _
theorem unsubL_len (l : List B) : (unsubL l).length = 16 := mk16_len _
theorem shiftL_len (l : List B) : (shiftL l).length = 16 := mk16_len _
theorem unshiftL_len (l : List B) : (unshiftL l).length = 16 := mk16_len _
theorem mg_add4 (l : List B) (c r : Nat) : mg l c (r + 4) = mg l c r := by
  unfold mg; rw [Nat.add_mod_right]
theorem mg_mod (l : List B) (c r : Nat) (k : Nat) : mg l c (r % 4 + k) = mg l c (r + k) := by
  unfold mg; rw [show (r % 4 + k) % 4 = (r + k) % 4 by omega]
theorem mg_mod0 (l : List B) (c r : Nat) : mg l c (r % 4) = mg l c r := by
  unfold mg; rw [Nat.mod_mod]
theorem mg_mix (l : List B) (c r : Nat) (hc : c < 4) : mg (mixL l) c r = dbl (mg l c r) ^^^ dbl (mg l c (r + 1)) ^^^ mg l c (r + 1) ^^^ mg l c (r + 2) ^^^ mg l c (r + 3) := by
  have h1 : (4 * c + r % 4) / 4 = c := by omega
  have h2 : (4 * c + r % 4) % 4 = r % 4 := by omega
  rw [mg, mixL, mk16_get _ (by omega), h1, h2]
  simp only [mg_mod, mg_mod0]
theorem xor_cancel (x y : B) : x ^^^ (x ^^^ y) = y := by rw [← BitVec.xor_assoc, BitVec.xor_self, BitVec.zero_xor]
theorem xor_lc (x y z : B) : x ^^^ (y ^^^ z) = y ^^^ (x ^^^ z) := by ac_rfl
theorem mix2 (l : List B) (c r : Nat) (hc : c < 4) : mg (mixL (mixL l)) c r = dbl (dbl (mg l c r)) ^^^ mg l c r ^^^ dbl (dbl (mg l c (r + 2))) := by
  simp only [mg_mix _ _ _ hc, dbl_add _ _, Nat.add_assoc, Nat.reduceAdd]
  have e4 : mg l c (r + 4) = mg l c r := mg_add4 l c r
  have e5 : mg l c (r + 5) = mg l c (r + 1) := mg_add4 l c (r + 1)
  have e6 : mg l c (r + 6) = mg l c (r + 2) := mg_add4 l c (r + 2)
  simp only [e4, e5, e6]
  generalize mg l c r = a
  generalize mg l c (r + 1) = b
  generalize mg l c (r + 2) = d
  generalize mg l c (r + 3) = e
  generalize dbl (dbl a) = a2
  generalize dbl (dbl b) = b2
  generalize dbl (dbl d) = d2
  generalize dbl (dbl e) = e2
  generalize dbl a = a1
  generalize dbl b = b1
  generalize dbl d = d1
  generalize dbl e = e1
  simp only [BitVec.xor_assoc, BitVec.xor_comm, xor_lc, xor_cancel, BitVec.xor_self, BitVec.xor_zero]
theorem mix4 (l : List B) (c r : Nat) (hc : c < 4) : mg (mixL (mixL (mixL (mixL l)))) c r = mg l c r := by
  simp only [mix2 _ _ _ hc, dbl_add _ _, Nat.add_assoc, Nat.reduceAdd]
  have e4 : mg l c (r + 4) = mg l c r := mg_add4 l c r
  simp only [e4]
  generalize mg l c r = a
  generalize mg l c (r + 2) = d
  generalize dbl (dbl (dbl (dbl a))) = a4
  generalize dbl (dbl (dbl (dbl d))) = d4
  generalize dbl (dbl a) = a2
  generalize dbl (dbl d) = d2
  simp only [BitVec.xor_assoc, BitVec.xor_comm, xor_lc, xor_cancel, BitVec.xor_self, BitVec.xor_zero]
theorem mix_len (l : List B) : (mixL l).length = 16 := mk16_len _
theorem unmix_len (l : List B) : (unmixL l).length = 16 := mk16_len _
theorem mg_at (l : List B) (i : Nat) (_h : i < 16) : l.getD i 0#8 = mg l (i / 4) (i % 4) := by
  unfold mg; rw [show 4 * (i / 4) + i % 4 % 4 = i by omega]
theorem mix_four (l : List B) (hl : l.length = 16) : mixL (mixL (mixL (mixL l))) = l := by
  apply ext16 (mix_len _) hl
  intro i hi
  rw [mg_at _ i hi, mg_at l i hi, mix4 _ _ _ (by omega)]
theorem unmix_mix (l : List B) (hl : l.length = 16) : unmixL (mixL l) = l := mix_four l hl
theorem mix_unmix (l : List B) (hl : l.length = 16) : mixL (unmixL l) = l := mix_four l hl
theorem xor_xor (l k : List B) (hl : l.length = 16) : xorL (xorL l k) k = l := by
  apply ext16 (xorL_len _ _) hl
  intro i hi
  rw [xorL_get _ _ hi, xorL_get _ _ hi, BitVec.xor_assoc, BitVec.xor_self, BitVec.xor_zero]
theorem unsub_sub (l : List B) (hl : l.length = 16) : unsubL (subL l) = l := by
  apply ext16 (unsubL_len _) hl
  intro i hi
  rw [unsubL_get _ hi, subL_get _ hi, bk_sb]
theorem sub_unsub (l : List B) (hl : l.length = 16) : subL (unsubL l) = l := by
  apply ext16 (subL_len _) hl
  intro i hi
  rw [subL_get _ hi, unsubL_get _ hi, sb_bk]
theorem sh_un : ∀ i < 16, (i % 4 + 4 * ((i / 4 + 4 - i % 4) % 4)) % 4 + 4 * (((i % 4 + 4 * ((i / 4 + 4 - i % 4) % 4)) / 4 + (i % 4 + 4 * ((i / 4 + 4 - i % 4) % 4)) % 4) % 4) = i := by decide +kernel
theorem un_sh : ∀ i < 16, (i % 4 + 4 * ((i / 4 + i % 4) % 4)) % 4 + 4 * (((i % 4 + 4 * ((i / 4 + i % 4) % 4)) / 4 + 4 - (i % 4 + 4 * ((i / 4 + i % 4) % 4)) % 4) % 4) = i := by decide +kernel
theorem unshift_shift (l : List B) (hl : l.length = 16) : unshiftL (shiftL l) = l := by
  apply ext16 (unshiftL_len _) hl
  intro i hi
  rw [unshiftL_get _ hi, shiftL_get _ (by omega), sh_un i hi]
theorem shift_unshift (l : List B) (hl : l.length = 16) : shiftL (unshiftL l) = l := by
  apply ext16 (shiftL_len _) hl
  intro i hi
  rw [shiftL_get _ hi, unshiftL_get _ (by omega), un_sh i hi]
/-- The key of a round, out of all of them. -/
def kr (K : List B) (r : Nat) : List B := mk16 fun i => K.getD (16 * r + i) 0#8
/-- A block behind so many rounds. -/
def rnd (K l : List B) : Nat → List B
  | 0 => xorL l (kr K 0)
  | n + 1 => xorL (mixL (shiftL (subL (rnd K l n)))) (kr K (n + 1))
def enc (K l : List B) : List B := xorL (shiftL (subL (rnd K l 13))) (kr K 14)
/-- And back. -/
def dnd (K l : List B) : Nat → List B
  | 0 => unsubL (unshiftL (xorL l (kr K 14)))
  | n + 1 => unsubL (unshiftL (unmixL (xorL (dnd K l n) (kr K (13 - n)))))
def dec (K l : List B) : List B := xorL (dnd K l 13) (kr K 0)
theorem rnd_len (K l : List B) (n : Nat) : (rnd K l n).length = 16 := by cases n <;> exact mk16_len _
theorem enc_len (K l : List B) : (enc K l).length = 16 := mk16_len _
theorem dnd_len (K l : List B) (n : Nat) : (dnd K l n).length = 16 := by cases n <;> exact mk16_len _
theorem dec_len (K l : List B) : (dec K l).length = 16 := mk16_len _
theorem dnd_enc (K l : List B) : ∀ n ≤ 13, dnd K (enc K l) n = rnd K l (13 - n) := by
  intro n
  induction n with
  | zero => intro _; rw [dnd, enc, xor_xor _ _ (shiftL_len _), unshift_shift _ (subL_len _), unsub_sub _ (rnd_len _ _ _)]
  | succ n ih =>
    intro h
    rw [dnd, ih (by omega), show 13 - n = (13 - (n + 1)) + 1 by omega, rnd, xor_xor _ _ (mix_len _), unmix_mix _ (shiftL_len _), unshift_shift _ (subL_len _), unsub_sub _ (rnd_len _ _ _)]
theorem dec_enc (K l : List B) (hl : l.length = 16) : dec K (enc K l) = l := by
  rw [dec, dnd_enc K l 13 (Nat.le_refl _), Nat.sub_self, rnd, xor_xor _ _ hl]
theorem rnd_dec (K l : List B) : ∀ n ≤ 13, rnd K (dec K l) n = dnd K l (13 - n) := by
  intro n
  induction n with
  | zero => intro _; rw [rnd, dec, xor_xor _ _ (dnd_len _ _ _)]
  | succ n ih =>
    intro h
    rw [rnd, ih (by omega), show 13 - n = (13 - (n + 1)) + 1 by omega, dnd, sub_unsub _ (unshiftL_len _), shift_unshift _ (unmix_len _), mix_unmix _ (xorL_len _ _), show 13 - (13 - (n + 1)) = n + 1 by omega, xor_xor _ _ (dnd_len _ _ _)]
theorem enc_dec (K l : List B) (hl : l.length = 16) : enc K (dec K l) = l := by
  rw [enc, rnd_dec K l 13 (Nat.le_refl _), Nat.sub_self, dnd, sub_unsub _ (unshiftL_len _), shift_unshift _ (xorL_len _ _), xor_xor _ _ hl]
theorem enc_inj (K l m : List B) (hl : l.length = 16) (hm : m.length = 16) (h : enc K l = enc K m) : l = m := by
  rw [← dec_enc K l hl, h, dec_enc K m hm]

/-! The rounds' keys. -/
def put4 (l : List B) (i : Nat) (x : B × B × B × B) : List B := (((l.set (4 * i) x.1).set (4 * i + 1) x.2.1).set (4 * i + 2) x.2.2.1).set (4 * i + 3) x.2.2.2
/-- The mark of a column. -/
def mrk (i : Nat) : B := Nat.repeat dbl ((i - 1) / 8) 1#8
def colOf (l : List B) (i : Nat) : B × B × B × B := (l.getD (4 * i) 0#8, l.getD (4 * i + 1) 0#8, l.getD (4 * i + 2) 0#8, l.getD (4 * i + 3) 0#8)
def turnC (i : Nat) (x : B × B × B × B) : B × B × B × B :=
  if i % 8 = 0 then (sb x.2.1 ^^^ mrk i, sb x.2.2.1, sb x.2.2.2, sb x.1) else if i % 4 = 0 then (sb x.1, sb x.2.1, sb x.2.2.1, sb x.2.2.2) else x
def xorC (x y : B × B × B × B) : B × B × B × B := (x.1 ^^^ y.1, x.2.1 ^^^ y.2.1, x.2.2.1 ^^^ y.2.2.1, x.2.2.2 ^^^ y.2.2.2)
def colK (key l : List B) (i : Nat) : B × B × B × B := if i < 8 then colOf key i else xorC (colOf l (i - 8)) (turnC i (colOf l (i - 1)))
def ks (key : List B) : Nat → List B
  | 0 => List.replicate 240 0#8
  | n + 1 => put4 (ks key n) n (colK key (ks key n) n)
theorem put4_len (l : List B) (i : Nat) (x : B × B × B × B) : (put4 l i x).length = l.length := by simp [put4]
theorem ks_len (key : List B) (n : Nat) : (ks key n).length = 240 := by
  induction n with
  | zero => exact List.length_replicate
  | succ n ih => rw [ks, put4_len, ih]
end Go.Proofs.Ytmldmlbmfbdjoab

namespace Go.Proofs.Ytmldmlbmfbdjoab
open Go Go.RowKit Go.Sort
attribute [local go_sem] setCell_drewN alloc_drewN

/-! Words: turned, doubled, picked. -/
set_option maxHeartbeats 1000000 in
theorem a_rotw1 (a b c d : B) : Gives 40 #[.int .u32 (wv (wd a b c d)), .int .i64 8] (.int .u32 (wv (wd b c d a))) := by
  intro w
  have ha : bits .and .u64 8 31 = 8 := by decide +kernel
  have e := wd_left1 a b c d
  have hb := wnd (wd a b c d)
  go_enter Try.func40, Try.ntmps40
  go_wp2_with (simp only [ha])
  go_ret
  exact ⟨rfl, Below.refl _ _⟩
set_option maxHeartbeats 1000000 in
theorem a_left1 (a b c d : B) : Gives 32 #[.int .u32 (wv (wd a b c d)), .int .i64 1] (.int .u32 (wv (wd b c d a))) := by
  intro w
  have h := a_rotw1 a b c d
  go_enter Try.func32, Try.ntmps32
  go_wp2_with (fail)
  refine (h.at _).mono ?_
  rintro e w1 ⟨rfl, hb⟩
  go_wp2
  go_ret
  exact ⟨rfl, hb⟩
set_option maxHeartbeats 1000000 in
theorem a_rotw2 (a b c d : B) : Gives 40 #[.int .u32 (wv (wd a b c d)), .int .i64 16] (.int .u32 (wv (wd c d a b))) := by
  intro w
  have ha : bits .and .u64 16 31 = 16 := by decide +kernel
  have e := wd_left2 a b c d
  have hb := wnd (wd a b c d)
  go_enter Try.func40, Try.ntmps40
  go_wp2_with (simp only [ha])
  go_ret
  exact ⟨rfl, Below.refl _ _⟩
set_option maxHeartbeats 1000000 in
theorem a_left2 (a b c d : B) : Gives 32 #[.int .u32 (wv (wd a b c d)), .int .i64 2] (.int .u32 (wv (wd c d a b))) := by
  intro w
  have h := a_rotw2 a b c d
  go_enter Try.func32, Try.ntmps32
  go_wp2_with (fail)
  refine (h.at _).mono ?_
  rintro e w1 ⟨rfl, hb⟩
  go_wp2
  go_ret
  exact ⟨rfl, hb⟩
set_option maxHeartbeats 1000000 in
theorem a_rotw3 (a b c d : B) : Gives 40 #[.int .u32 (wv (wd a b c d)), .int .i64 24] (.int .u32 (wv (wd d a b c))) := by
  intro w
  have ha : bits .and .u64 24 31 = 24 := by decide +kernel
  have e := wd_left3 a b c d
  have hb := wnd (wd a b c d)
  go_enter Try.func40, Try.ntmps40
  go_wp2_with (simp only [ha])
  go_ret
  exact ⟨rfl, Below.refl _ _⟩
set_option maxHeartbeats 1000000 in
theorem a_left3 (a b c d : B) : Gives 32 #[.int .u32 (wv (wd a b c d)), .int .i64 3] (.int .u32 (wv (wd d a b c))) := by
  intro w
  have h := a_rotw3 a b c d
  go_enter Try.func32, Try.ntmps32
  go_wp2_with (fail)
  refine (h.at _).mono ?_
  rintro e w1 ⟨rfl, hb⟩
  go_wp2
  go_ret
  exact ⟨rfl, hb⟩
set_option maxHeartbeats 1000000 in
theorem a_wtwice (a b c d : B) : Gives 37 #[.int .u32 (wv (wd a b c d))] (.int .u32 (wv (wd (dbl a) (dbl b) (dbl c) (dbl d)))) := by
  intro w
  have e1 := wd_and7f a b c d
  have e2 := wd_shl1 a b c d
  have e3 := wd_shr7 a b c d
  have e4 := wd_mul a b c d
  have e5 := wd_dbl a b c d
  have hb := wnd (wd a b c d)
  go_enter Try.func37, Try.ntmps37
  go_wp2
  go_ret
  rw [← e5, ← e2, ← e4]
  exact ⟨rfl, Below.refl _ _⟩

end Go.Proofs.Ytmldmlbmfbdjoab

namespace Go.Proofs.Ytmldmlbmfbdjoab
open Go Go.RowKit Go.Sort
attribute [local go_sem] setCell_drewN alloc_drewN

theorem ix_b (a b c d : B) : bits .and .u32 (wv (wd a b c d) / 65536) 255 = bv b := by rw [wd_shr2, wd_mask3, ← wd_lo]
theorem ix_c (a b c d : B) : bits .and .u32 (wv (wd a b c d) / 256) 255 = bv c := by rw [wd_shr3, wd_mask3, ← wd_lo]
theorem ix_d (a b c d : B) : bits .and .u32 (wv (wd a b c d)) 255 = bv d := by rw [wd_mask3, ← wd_lo]
theorem or_ab (a b : B) : bits .or .u32 (bv a * 16777216) (bv b * 65536) = wv (wd a b 0#8 0#8) := by
  rw [wd_hi, wd_b, or32, wd_or]; simp
theorem or_abc (a b c : B) : bits .or .u32 (wv (wd a b 0#8 0#8)) (bv c * 256) = wv (wd a b c 0#8) := by
  rw [wd_c, or32, wd_or]; simp
theorem or_abcd (a b c d : B) : bits .or .u32 (wv (wd a b c 0#8)) (bv d) = wv (wd a b c d) := by
  rw [wd_lo, or32, wd_or]; simp
set_option maxRecDepth 100000 in
set_option maxHeartbeats 2000000 in
theorem a_through (t : B → B) (g off : Nat) (a b c d : B) (W : World) (ht : ∀ x : B, W.cell? ⟨g, off + x.toNat, none⟩ = some (.int .u8 (bv (t x)))) : Calls Try.prog 33 #[.int .u32 (wv (wd a b c d)), .pointer (some ⟨g, off, none⟩)] W fun e w' => e = .returned (.int .u32 (wv (wd (t a) (t b) (t c) (t d)))) ∧ Below W.heap.size W w' := by
  have hw : Below W.heap.size W W := Below.refl _ _
  have c0 := ht a
  have c1 := ht b
  have c2 := ht c
  have c3 := ht d
  clear ht
  have i0 := wd_a_of a b c d
  have i1 := ix_b a b c d
  have i2 := ix_c a b c d
  have i3 := ix_d a b c d
  have o1 := or_ab (t a) (t b)
  have o2 := or_abc (t a) (t b) (t c)
  have o3 := or_abcd (t a) (t b) (t c) (t d)
  have n0 := bv_nat a
  have n1 := bv_nat b
  have n2 := bv_nat c
  have n3 := bv_nat d
  have b0 := bnd a
  have b1 := bnd b
  have b2 := bnd c
  have b3 := bnd d
  have t0 := bnd (t a)
  have t1 := bnd (t b)
  have t2 := bnd (t c)
  have t3 := bnd (t d)
  have bw := wnd (wd a b c d)
  generalize t a = ta at *
  generalize t b = tb at *
  generalize t c = tc at *
  generalize t d = td at *
  go_enter Try.func33, Try.ntmps33
  go_wp2_with (fail)
  have k0 : ∀ p : Regrown, (grow (redrawn W p.d) p.os).cell? ⟨g, off + a.toNat, none⟩ = some (.int .u8 (bv ta)) := fun p => cell_regrown (c0) p.d p.os
  have k1 : ∀ p : Regrown, (grow (redrawn W p.d) p.os).cell? ⟨g, off + b.toNat, none⟩ = some (.int .u8 (bv tb)) := fun p => cell_regrown (c1) p.d p.os
  have k2 : ∀ p : Regrown, (grow (redrawn W p.d) p.os).cell? ⟨g, off + c.toNat, none⟩ = some (.int .u8 (bv tc)) := fun p => cell_regrown (c2) p.d p.os
  have k3 : ∀ p : Regrown, (grow (redrawn W p.d) p.os).cell? ⟨g, off + d.toNat, none⟩ = some (.int .u8 (bv td)) := fun p => cell_regrown (c3) p.d p.os
  refine wp_region_quiet_below (by kernel_rfl) (by kernel_rfl) ?_
  go_big_quiet_step (fail)
  go_big_quiet_step (fail)
  go_big_quiet_step (fail)
  go_big_quiet_step (fail)
  go_big_quiet_step (fail)
  go_big_quiet_step (fail)
  go_big_quiet_step (fail)
  go_big_quiet_step (fail)
  go_big_quiet_step (fail)
  go_big_quiet_step (fail)
  go_big_quiet_step (fail)
  go_big_quiet_step (fail)
  go_big_quiet_step (fail)
  go_big_quiet_step (fail)
  go_big_quiet_step (fail)
  go_big_quiet_step (fail)
  go_big_quiet_step (fail)
  go_big_quiet_step (fail)
  go_big_quiet_step (fail)
  go_big_quiet_step (fail)
  go_big_quiet_step (fail)
  go_big_quiet_step (fail)
  go_big_quiet_step (fail)
  go_big_quiet_step (fail)
  go_big_quiet_step (fail)
  go_big_quiet_step (fail)
  go_big_quiet_step (fail)
  go_big_quiet_step (fail)
  go_big_quiet_step (fail)
  go_big_quiet_step (fail)
  go_big_quiet_step (fail)
  go_big_quiet_step (fail)
  go_big_quiet_step (fail)
  go_big_quiet_step (fail)
  go_big_quiet_step (fail)
  go_big_quiet_step (fail)
  go_big_quiet_step (fail)
  refine wpQuiet_nil ?_
  rintro _ ⟨p, rfl⟩
  have hb := below_regrown W p.d p.os
  generalize grow (redrawn W p.d) p.os = w1 at *
  clear k0 k1 k2 k3
  replace hw := Below.after hw hb
  clear hb

  go_wp2
  go_ret
  exact ⟨rfl, hw⟩

theorem pick2 (a b : B) : bits .or .u32 (wv (wd a 0#8 0#8 0#8)) (wv (wd 0#8 b 0#8 0#8)) = wv (wd a b 0#8 0#8) := by
  rw [or32, wd_or]; simp
theorem pick3 (a b c : B) : bits .or .u32 (wv (wd a b 0#8 0#8)) (wv (wd 0#8 0#8 c 0#8)) = wv (wd a b c 0#8) := by
  rw [or32, wd_or]; simp
theorem pick4 (a b c d : B) : bits .or .u32 (wv (wd a b c 0#8)) (wv (wd 0#8 0#8 0#8 d)) = wv (wd a b c d) := by
  rw [or32, wd_or]; simp
set_option maxHeartbeats 2000000 in
theorem a_picked (a0 b0 c0 d0 a1 b1 c1 d1 a2 b2 c2 d2 a3 b3 c3 d3 : B) : Gives 35 #[.agg #[.int .u32 (wv (wd a0 b0 c0 d0)), .int .u32 (wv (wd a1 b1 c1 d1)), .int .u32 (wv (wd a2 b2 c2 d2)), .int .u32 (wv (wd a3 b3 c3 d3))]] (.int .u32 (wv (wd a0 b1 c2 d3))) := by
  intro w
  have e0 := wd_mask0 a0 b0 c0 d0
  have e1 := wd_mask1 a1 b1 c1 d1
  have e2 := wd_mask2 a2 b2 c2 d2
  have e3 := wd_mask3 a3 b3 c3 d3
  have p2 := pick2 a0 b1
  have p3 := pick3 a0 b1 c2
  have p4 := pick4 a0 b1 c2 d3
  go_enter Try.func35, Try.ntmps35
  go_wp2
  go_ret
  exact ⟨rfl, (Below.refl _ _).alloc (Nat.le_refl _) _⟩

set_option maxHeartbeats 4000000 in
theorem a_turned (x0 x1 x2 x3 : Int) (k : Nat) (hk : k < 4) : Gives 36 #[.agg #[.int .u32 x0, .int .u32 x1, .int .u32 x2, .int .u32 x3], .int .i64 (k : Int)] (.agg #[.int .u32 ([x0, x1, x2, x3].getD ((0 + k) % 4) 0), .int .u32 ([x0, x1, x2, x3].getD ((1 + k) % 4) 0), .int .u32 ([x0, x1, x2, x3].getD ((2 + k) % 4) 0), .int .u32 ([x0, x1, x2, x3].getD ((3 + k) % 4) 0)]) := by
  intro w
  rcases (show k = 0 ∨ k = 1 ∨ k = 2 ∨ k = 3 by omega) with rfl | rfl | rfl | rfl
  · go_enter Try.func36, Try.ntmps36
    go_wp2
    refine wp_loop_rounds 5 ?_
    rw [rounds_succ]; go_wp2
    rw [rounds_succ]; go_wp2
    rw [rounds_succ]; go_wp2
    rw [rounds_succ]; go_wp2
    rw [rounds_succ]; go_wp2
    exact bodyPost_ret (v := .agg #[.int .u32 x0, .int .u32 x1, .int .u32 x2, .int .u32 x3]) (results_cell_row Try.results36 _ _ (w.heap.size + 1) _ _ _ _ rfl (hp3_1 w (.cells #[.int .u32 x0, .int .u32 x1, .int .u32 x2, .int .u32 x3] 49) (.cells #[.int .u32 x0, .int .u32 x1, .int .u32 x2, .int .u32 x3] 49) (.cells #[.int .u32 x0, .int .u32 x1, .int .u32 x2, .int .u32 x3] 49)) Try.underlying49 rfl (by kernel_rfl)) rfl ⟨rfl, (((Below.refl _ _).alloc (Nat.le_refl _) _).alloc (by simp) _).alloc (by simp; omega) _⟩
  · go_enter Try.func36, Try.ntmps36
    go_wp2
    refine wp_loop_rounds 5 ?_
    rw [rounds_succ]; go_wp2
    rw [rounds_succ]; go_wp2
    rw [rounds_succ]; go_wp2
    rw [rounds_succ]; go_wp2
    rw [rounds_succ]; go_wp2
    exact bodyPost_ret (v := .agg #[.int .u32 x1, .int .u32 x2, .int .u32 x3, .int .u32 x0]) (results_cell_row Try.results36 _ _ (w.heap.size + 1) _ _ _ _ rfl (hp3_1 w (.cells #[.int .u32 x0, .int .u32 x1, .int .u32 x2, .int .u32 x3] 49) (.cells #[.int .u32 x1, .int .u32 x2, .int .u32 x3, .int .u32 x0] 49) (.cells #[.int .u32 x1, .int .u32 x2, .int .u32 x3, .int .u32 x0] 49)) Try.underlying49 rfl (by kernel_rfl)) rfl ⟨rfl, (((Below.refl _ _).alloc (Nat.le_refl _) _).alloc (by simp) _).alloc (by simp; omega) _⟩
  · go_enter Try.func36, Try.ntmps36
    go_wp2
    refine wp_loop_rounds 5 ?_
    rw [rounds_succ]; go_wp2
    rw [rounds_succ]; go_wp2
    rw [rounds_succ]; go_wp2
    rw [rounds_succ]; go_wp2
    rw [rounds_succ]; go_wp2
    exact bodyPost_ret (v := .agg #[.int .u32 x2, .int .u32 x3, .int .u32 x0, .int .u32 x1]) (results_cell_row Try.results36 _ _ (w.heap.size + 1) _ _ _ _ rfl (hp3_1 w (.cells #[.int .u32 x0, .int .u32 x1, .int .u32 x2, .int .u32 x3] 49) (.cells #[.int .u32 x2, .int .u32 x3, .int .u32 x0, .int .u32 x1] 49) (.cells #[.int .u32 x2, .int .u32 x3, .int .u32 x0, .int .u32 x1] 49)) Try.underlying49 rfl (by kernel_rfl)) rfl ⟨rfl, (((Below.refl _ _).alloc (Nat.le_refl _) _).alloc (by simp) _).alloc (by simp; omega) _⟩
  · go_enter Try.func36, Try.ntmps36
    go_wp2
    refine wp_loop_rounds 5 ?_
    rw [rounds_succ]; go_wp2
    rw [rounds_succ]; go_wp2
    rw [rounds_succ]; go_wp2
    rw [rounds_succ]; go_wp2
    rw [rounds_succ]; go_wp2
    exact bodyPost_ret (v := .agg #[.int .u32 x3, .int .u32 x0, .int .u32 x1, .int .u32 x2]) (results_cell_row Try.results36 _ _ (w.heap.size + 1) _ _ _ _ rfl (hp3_1 w (.cells #[.int .u32 x0, .int .u32 x1, .int .u32 x2, .int .u32 x3] 49) (.cells #[.int .u32 x3, .int .u32 x0, .int .u32 x1, .int .u32 x2] 49) (.cells #[.int .u32 x3, .int .u32 x0, .int .u32 x1, .int .u32 x2] 49)) Try.underlying49 rfl (by kernel_rfl)) rfl ⟨rfl, (((Below.refl _ _).alloc (Nat.le_refl _) _).alloc (by simp) _).alloc (by simp; omega) _⟩

end Go.Proofs.Ytmldmlbmfbdjoab


namespace Go.Proofs.Ytmldmlbmfbdjoab
open Go Go.RowKit Go.Sort
attribute [local go_sem] setCell_drewN alloc_drewN


/-! Bytes shifted into words. -/
abbrev Wd := BitVec 32
def wo (l : List B) (j : Nat) : Wd := wd (l.getD (4 * j) 0#8) (l.getD (4 * j + 1) 0#8) (l.getD (4 * j + 2) 0#8) (l.getD (4 * j + 3) 0#8)
def sh (l : List B) (j : Nat) : Nat → Wd
  | 0 => wd 0#8 0#8 0#8 0#8
  | 1 => wd 0#8 0#8 0#8 (l.getD (4 * j) 0#8)
  | 2 => wd 0#8 0#8 (l.getD (4 * j) 0#8) (l.getD (4 * j + 1) 0#8)
  | 3 => wd 0#8 (l.getD (4 * j) 0#8) (l.getD (4 * j + 1) 0#8) (l.getD (4 * j + 2) 0#8)
  | _ => wo l j
theorem or_lo (a b c d : B) : bits .or .u32 (wv (wd a b c 0#8)) (bv d) = wv (wd a b c d) := or_abcd a b c d
theorem sh_step (l : List B) (j m : Nat) (hm : m < 4) : bits .or .u32 (wv (sh l j m) * 256 % 4294967296) (bv (l.getD (4 * j + m) 0#8)) = wv (sh l j (m + 1)) := by
  rcases (show m = 0 ∨ m = 1 ∨ m = 2 ∨ m = 3 by omega) with rfl | rfl | rfl | rfl <;> simp only [sh, wo, wd_shl, or_lo, Nat.add_zero]
def wl (ws : List Wd) : List Int := ws.map wv
theorem wl_len (ws : List Wd) : (wl ws).length = ws.length := by simp [wl]
theorem wl_get (l : List Wd) (j : Nat) : (wl l).getD j 0 = wv (l.getD j 0#32) := by
  simp only [wl, List.getD_eq_getElem?_getD, List.getElem?_map]
  cases l[j]? <;> rfl
theorem wl_set (l : List Wd) (j : Nat) (z : Wd) : (wl l).set j (wv z) = wl (l.set j z) := by
  simp [wl, List.map_set]
theorem wrow_cell {W : World} {g : Nat} {l : List Wd} {t : TypeId} (hg : W.heap[g]? = some (.cells (irow .u32 (wl l)) t (0, 0))) {j : Nat} (hj : j < l.length) : W.cell? ⟨g, j, none⟩ = some (.int .u32 (wv (l.getD j 0#32))) := by
  rw [← wl_get]; exact irow_cell hg (by rw [wl_len]; exact hj)
theorem wrow_set {W : World} {g : Nat} {l : List Wd} {t : TypeId} (hg : W.heap[g]? = some (.cells (irow .u32 (wl l)) t (0, 0))) (j : Nat) (z : Wd) : (W.setCell ⟨g, j, none⟩ (.int .u32 (wv z))).heap[g]? = some (.cells (irow .u32 (wl (l.set j z))) t (0, 0)) := by
  rw [← wl_set]; exact irow_set hg j (wv z)
def shw (l : List B) (n k : Nat) : List Wd := (List.range n).map fun j => sh l j (min 4 (k - 4 * j))
theorem shw_len (l : List B) (n k : Nat) : (shw l n k).length = n := by simp [shw]
theorem shw_get (l : List B) (n k j : Nat) (h : j < n) : (shw l n k).getD j 0#32 = sh l j (min 4 (k - 4 * j)) := by
  simp [shw, List.getD_eq_getElem?_getD, h]
theorem shw_set (l : List B) (n k : Nat) (h : k < 4 * n) : (shw l n k).set (k / 4) (sh l (k / 4) (k % 4 + 1)) = shw l n (k + 1) := by
  apply List.ext_getElem?
  intro j
  rw [List.getElem?_set]
  by_cases e : k / 4 = j
  · rw [if_pos e, if_pos (by rw [shw_len]; omega)]
    have hj : j < n := by omega
    simp only [shw, List.getElem?_map, List.getElem?_range hj, Option.map_some]
    rw [show min 4 (k + 1 - 4 * j) = k % 4 + 1 by omega, e]
  · rw [if_neg e]
    simp only [shw, List.getElem?_map]
    by_cases hj : j < n
    · simp only [List.getElem?_range hj, Option.map_some]
      rw [show min 4 (k + 1 - 4 * j) = min 4 (k - 4 * j) by omega]
    · rw [List.getElem?_eq_none (by simp; omega)]; rfl
def wos (l : List B) (n : Nat) : List Wd := (List.range n).map (wo l)
theorem wos_len (l : List B) (n : Nat) : (wos l n).length = n := by simp [wos]
theorem wos_get (l : List B) (n j : Nat) (h : j < n) : (wos l n).getD j 0#32 = wo l j := by
  simp [wos, List.getD_eq_getElem?_getD, h]
theorem shw_zero (l : List B) (n : Nat) : shw l n 0 = List.replicate n 0#32 := by
  apply List.ext_getElem (by simp [shw])
  intro i h1 h2
  simp [shw, sh, wd]
theorem shw_full (l : List B) (n k : Nat) (h : 4 * n ≤ k) : shw l n k = wos l n := by
  apply List.map_congr_left
  intro j hj
  rw [List.mem_range] at hj
  rw [show min 4 (k - 4 * j) = 4 by omega]; rfl
theorem wl_zr (n : Nat) : wl (List.replicate n 0#32) = zr n := by
  simp only [wl, zr, List.map_replicate]; rfl
theorem info_wl {t : TypeId} {n : Nat} (ht : (Try.prog.info? t).map (·.size) = some n) (l : List Wd) (h : l.length = n) : (Try.prog.info? t).map (·.size) = some (irow .u32 (wl l)).size := by
  rw [irow_size, wl_len, h]; exact ht
theorem info_bl {t : TypeId} {n : Nat} (ht : (Try.prog.info? t).map (·.size) = some n) (l : List B) (h : l.length = n) : (Try.prog.info? t).map (·.size) = some (irow .u8 (bl l)).size := by
  rw [irow_size, bl_len, h]; exact ht
theorem infoB : (Try.prog.info? 37).map (·.size) = some 16 := by kernel_rfl
theorem infoC : (Try.prog.info? 50).map (·.size) = some 4 := by kernel_rfl
theorem zBl (W : World) : (Instr.alloc 37 true (.tuple #[])).run Try.prog W = .ok (.pointer (some ⟨W.heap.size, 0, none⟩)) (W.alloc (.cells (irow .u8 (zr 16)) 37)) := by kernel_rfl
theorem zCo (W : World) : (Instr.alloc 50 true (.tuple #[])).run Try.prog W = .ok (.pointer (some ⟨W.heap.size, 0, none⟩)) (W.alloc (.cells (irow .u32 (zr 4)) 50)) := by kernel_rfl
theorem bBl (cs : Array Value) (W : World) : (Instr.box 37 (.agg cs)).run Try.prog W = .ok (.pointer (some ⟨W.heap.size, 0, none⟩)) (W.alloc (.cells cs 37)) := by kernel_rfl
theorem bCo (cs : Array Value) (W : World) : (Instr.box 50 (.agg cs)).run Try.prog W = .ok (.pointer (some ⟨W.heap.size, 0, none⟩)) (W.alloc (.cells cs 50)) := by kernel_rfl
theorem indexB (l : List B) (hl : l.length = 16) (j : Nat) (hj : j < 16) (W : World) : (Instr.index 37 (.agg (irow .u8 (bl l))) (.int .i64 (j : Int))).run Try.prog W = .ok (.int .u8 (bv (l.getD j 0#8))) W := by
  obtain ⟨i0, hi⟩ : ∃ i, Try.prog.info? 5 = some i := ⟨_, rfl⟩
  rw [← bl_get]
  exact index_row Try.underlying37 Try.underlying5 hi (fun W => by kernel_rfl) (bl l) (by rw [bl_len, hl]) j hj W

set_option maxRecDepth 100000 in
set_option maxHeartbeats 4000000 in
theorem a_cut (l : List B) (hl : l.length = 16) : Gives 22 #[.agg (irow .u8 (bl (l)))] (.agg (irow .u32 (wl (wos l 4)))) := by
  intro w
  have hz : ∀ W : World, (Instr.alloc 50 true (.tuple #[])).run Try.prog W = .ok (.pointer (some ⟨W.heap.size, 0, none⟩)) (W.alloc (.cells (irow .u32 (wl (shw l 4 0))) 50)) := by rw [shw_zero, wl_zr]; exact zCo
  have R0 := hp3_0 w (.cells (irow .u8 (bl (l))) 37) (.cells (irow .u32 (wl (shw l 4 0))) 50) (.cells (irow .u32 (wl (shw l 4 0))) 50)
  have R1 := hp3_1 w (.cells (irow .u8 (bl (l))) 37) (.cells (irow .u32 (wl (shw l 4 0))) 50) (.cells (irow .u32 (wl (shw l 4 0))) 50)
  have R2 := hp3_2 w (.cells (irow .u8 (bl (l))) 37) (.cells (irow .u32 (wl (shw l 4 0))) 50) (.cells (irow .u32 (wl (shw l 4 0))) 50)
  have HW : Below w.heap.size w (((w.alloc (.cells (irow .u8 (bl (l))) 37)).alloc (.cells (irow .u32 (wl (shw l 4 0))) 50)).alloc (.cells (irow .u32 (wl (shw l 4 0))) 50)) := ((((Below.refl _ _).alloc (Nat.le_refl _) _).alloc (by simp) _).alloc (by simp; omega) _)

  have hi0 := info_bl infoB l hl
  have hi1 := info_wl infoC (wos l 4) (wos_len _ _)
  go_enter Try.func22, Try.ntmps22
  go_wp2_with (first | (refine wpList_box rfl 37 _ rfl _ rfl (bBl _) ?_) | (refine wpList_alloc rfl 50 rfl (irow .u32 (wl (shw l 4 0))) hz ?_) | (refine wpList_load_want rfl 37 _ rfl (w.heap.size) rfl 37 (irow .u8 (bl (l))) (0, 0) _ R0 Try.underlying37 rfl hi0 ?_) | fail)
  try simp only [size_alloc1, Act.put, List.setIfInBounds_toArray, List.set_cons_succ, List.set_cons_zero]
  generalize (((w.alloc (.cells (irow .u8 (bl (l))) 37)).alloc (.cells (irow .u32 (wl (shw l 4 0))) 50)).alloc (.cells (irow .u32 (wl (shw l 4 0))) 50)) = w0 at *
  go_loopw [7] (fun i wr => ∃ k : Nat, k ≤ 16 ∧ i = .int .i64 k ∧ wr.heap[w.heap.size]? = some (.cells (irow .u8 (bl (l))) 37 (0, 0)) ∧ wr.heap[w.heap.size + 1]? = some (.cells (irow .u32 (wl (shw l 4 0))) 50 (0, 0)) ∧ wr.heap[w.heap.size + 1 + 1]? = some (.cells (irow .u32 (wl (shw l 4 k))) 50 (0, 0)) ∧ Below w.heap.size w wr) (fun i _ => 16 - (intOf i).toNat)
  case atStart => exact ⟨0, by omega, rfl, R0, R1, R2, HW⟩
  case round =>
    clear R0 R1 R2 HW hz
    obtain ⟨k, hk, rfl, r0, r1, r2, hw⟩ := hrel
    by_cases hlt : k < 16
    · have hd : decide ((k : Int) < 16) = true := by simp; omega
      have hix := indexB l hl k hlt wr
      have hq : (k : Int).tdiv 4 = ((k / 4 : Nat) : Int) := by rw [Int.tdiv_eq_ediv_of_nonneg (by omega)]; rfl
      have c0 := wrow_cell r2 (j := k / 4) (by rw [shw_len]; omega)
      rw [shw_get l 4 k (k / 4) (by omega), show min 4 (k - 4 * (k / 4)) = k % 4 by omega] at c0
      have hs := sh_step l (k / 4) (k % 4) (by omega)
      rw [show 4 * (k / 4) + k % 4 = k by omega] at hs
      have hset := hide (shw_set l 4 k (by omega))
      have hf := row_frozen r2 (k / 4)
      have b1 := bnd (l.getD k 0#8)
      have b2 := wnd (sh l (k / 4) (k % 4))
      generalize sh l (k / 4) (k % 4) = S0 at *
      generalize sh l (k / 4) (k % 4 + 1) = S1 at *
      generalize l.getD k 0#8 = x at *
      go_wp2
      refine ⟨⟨k + 1, by omega, by go_num, heap_other r0 (by omega), heap_other r1 (by omega), by rw [← hset.out]; exact wrow_set r2 (k / 4) S1, hw.setCell (show w.heap.size ≤ w.heap.size + 1 + 1 by omega) _⟩, by simp [intOf]; omega⟩
    · obtain rfl : k = 16 := by omega
      have hd : decide ((16 : Int) < 16) = false := by decide
      rw [shw_full l 4 16 (by omega)] at r2
      have hfi : (irow .u32 (wl (shw l 4 0))).size = (irow .u32 (wl (wos l 4))).size := by rw [irow_size, irow_size, wl_len, wl_len, shw_len, wos_len]
      clear hk hlt
      go_wp2_with (first | (refine wpList_load_want rfl 50 _ rfl (w.heap.size + 1 + 1) rfl 50 (irow .u32 (wl (wos l 4))) (0, 0) _ r2 Try.underlying50 rfl hi1 ?_) | (refine wpList_store_row rfl 50 _ _ rfl (w.heap.size + 1) (irow .u32 (wl (wos l 4))) rfl rfl 50 _ r1 hi1 hfi (irow_one _ _) ?_) | fail)
      replace r1 := setRow_heap wr (w.heap.size + 1) _ (irow .u32 (wl (wos l 4))) _ _ r1
      replace hw := below_setRow hw (show w.heap.size ≤ w.heap.size + 1 by omega) (irow .u32 (wl (wos l 4)))
      generalize wr.setRow (w.heap.size + 1) (irow .u32 (wl (wos l 4))) = w9 at *
      exact bodyPost_ret (v := .agg (irow .u32 (wl (wos l 4)))) (results_cell_row Try.results22 _ _ (w.heap.size + 1) _ _ _ _ rfl r1 Try.underlying50 rfl hi1) rfl ⟨rfl, hw⟩

/-- A list's byte, by a name that no rule opens. -/
def gb (l : List B) (i : Nat) : B := l.getD i 0#8
theorem pt_self (l : List B) (hl : l.length = 16) : pt (gb l) 16 16 = l := ext16 (pt_len _ _ _) hl fun _ hi => pt_get _ 16 16 hi hi
theorem byte_of (l : List B) (q r : Nat) (hr : r < 4) : wv (wo l q) / 2 ^ (24 - 8 * r) % 256 = bv (l.getD (4 * q + r) 0#8) := by
  rcases (show r = 0 ∨ r = 1 ∨ r = 2 ∨ r = 3 by omega) with rfl | rfl | rfl | rfl
  · have := wd_a_of (l.getD (4 * q) 0#8) (l.getD (4 * q + 1) 0#8) (l.getD (4 * q + 2) 0#8) (l.getD (4 * q + 3) 0#8)
    have b := bnd (l.getD (4 * q) 0#8)
    show wv (wd _ _ _ _) / 16777216 % 256 = _
    rw [this]; exact Int.emod_eq_of_lt b.1 b.2
  · exact wd_b_of _ _ _ _
  · exact wd_c_of _ _ _ _
  · have := wd_d_of (l.getD (4 * q) 0#8) (l.getD (4 * q + 1) 0#8) (l.getD (4 * q + 2) 0#8) (l.getD (4 * q + 3) 0#8)
    show wv (wd _ _ _ _) / 1 % 256 = _
    rw [Int.ediv_one]; exact this
set_option maxRecDepth 100000 in
set_option maxHeartbeats 4000000 in
theorem a_joined (l : List B) (hl : l.length = 16) : Gives 23 #[.agg (irow .u32 (wl (wos l 4)))] (.agg (irow .u8 (bl (l)))) := by
  intro w
  have hz : ∀ W : World, (Instr.alloc 37 true (.tuple #[])).run Try.prog W = .ok (.pointer (some ⟨W.heap.size, 0, none⟩)) (W.alloc (.cells (irow .u8 (bl (pt (gb l) 16 0))) 37)) := by rw [← zr_pt]; exact zBl
  have R0 := hp3_0 w (.cells (irow .u32 (wl (wos l 4))) 50) (.cells (irow .u8 (bl (pt (gb l) 16 0))) 37) (.cells (irow .u8 (bl (pt (gb l) 16 0))) 37)
  have R1 := hp3_1 w (.cells (irow .u32 (wl (wos l 4))) 50) (.cells (irow .u8 (bl (pt (gb l) 16 0))) 37) (.cells (irow .u8 (bl (pt (gb l) 16 0))) 37)
  have R2 := hp3_2 w (.cells (irow .u32 (wl (wos l 4))) 50) (.cells (irow .u8 (bl (pt (gb l) 16 0))) 37) (.cells (irow .u8 (bl (pt (gb l) 16 0))) 37)
  have HW : Below w.heap.size w (((w.alloc (.cells (irow .u32 (wl (wos l 4))) 50)).alloc (.cells (irow .u8 (bl (pt (gb l) 16 0))) 37)).alloc (.cells (irow .u8 (bl (pt (gb l) 16 0))) 37)) := ((((Below.refl _ _).alloc (Nat.le_refl _) _).alloc (by simp) _).alloc (by simp; omega) _)

  have hi0 := info_bl infoB l hl
  go_enter Try.func23, Try.ntmps23
  go_wp2_with (first | (refine wpList_box rfl 50 _ rfl _ rfl (bCo _) ?_) | (refine wpList_alloc rfl 37 rfl (irow .u8 (bl (pt (gb l) 16 0))) hz ?_) | fail)
  try simp only [size_alloc1, Act.put, List.setIfInBounds_toArray, List.set_cons_succ, List.set_cons_zero]
  generalize (((w.alloc (.cells (irow .u32 (wl (wos l 4))) 50)).alloc (.cells (irow .u8 (bl (pt (gb l) 16 0))) 37)).alloc (.cells (irow .u8 (bl (pt (gb l) 16 0))) 37)) = w0 at *
  go_loopw [5] (fun i wr => ∃ k : Nat, k ≤ 16 ∧ i = .int .i64 k ∧ wr.heap[w.heap.size]? = some (.cells (irow .u32 (wl (wos l 4))) 50 (0, 0)) ∧ wr.heap[w.heap.size + 1]? = some (.cells (irow .u8 (bl (pt (gb l) 16 0))) 37 (0, 0)) ∧ wr.heap[w.heap.size + 1 + 1]? = some (.cells (irow .u8 (bl (pt (gb l) 16 k))) 37 (0, 0)) ∧ Below w.heap.size w wr) (fun i _ => 16 - (intOf i).toNat)
  case atStart => exact ⟨0, by omega, rfl, R0, R1, R2, HW⟩
  case round =>
    clear R0 R1 R2 HW hz
    obtain ⟨k, hk, rfl, r0, r1, r2, hw⟩ := hrel
    by_cases hlt : k < 16
    · have hd : decide ((k : Int) < 16) = true := by simp; omega
      have hq : (k : Int).tdiv 4 = ((k / 4 : Nat) : Int) := by rw [Int.tdiv_eq_ediv_of_nonneg (by omega)]; rfl
      have c0 := wrow_cell r0 (j := k / 4) (by rw [wos_len]; omega)
      rw [wos_get l 4 (k / 4) (by omega)] at c0
      have hby := byte_of l (k / 4) (k % 4) (by omega)
      rw [show 4 * (k / 4) + k % 4 = k by omega] at hby
      have hset := hide (pt_set (gb l) 16 k hlt)
      rw [show l.getD k 0#8 = gb l k from rfl] at hby
      have c1 := brow_cell r2 (j := k) (by rw [pt_len]; exact hlt)
      have hf := row_frozen r2 k
      have b2 := wnd (wo l (k / 4))
      generalize wo l (k / 4) = S0 at *
      generalize gb l k = x at *
      go_wp2
      refine ⟨⟨k + 1, by omega, by go_num, heap_other r0 (by omega), heap_other r1 (by omega), by rw [← hset.out]; exact brow_set r2 k x, hw.setCell (show w.heap.size ≤ w.heap.size + 1 + 1 by omega) _⟩, by simp [intOf]; omega⟩
    · obtain rfl : k = 16 := by omega
      have hd : decide ((16 : Int) < 16) = false := by decide
      rw [pt_self l hl] at r2
      have hfi : (irow .u8 (bl (pt (gb l) 16 0))).size = (irow .u8 (bl (l))).size := by rw [irow_size, irow_size, bl_len, bl_len, pt_len, hl]
      clear hk hlt
      go_wp2_with (first | (refine wpList_load_want rfl 37 _ rfl (w.heap.size + 1 + 1) rfl 37 (irow .u8 (bl (l))) (0, 0) _ r2 Try.underlying37 rfl hi0 ?_) | (refine wpList_store_row rfl 37 _ _ rfl (w.heap.size + 1) (irow .u8 (bl (l))) rfl rfl 37 _ r1 hi0 hfi (irow_one _ _) ?_) | fail)
      replace r1 := setRow_heap wr (w.heap.size + 1) _ (irow .u8 (bl (l))) _ _ r1
      replace hw := below_setRow hw (show w.heap.size ≤ w.heap.size + 1 by omega) (irow .u8 (bl (l)))
      generalize wr.setRow (w.heap.size + 1) (irow .u8 (bl (l))) = w9 at *
      exact bodyPost_ret (v := .agg (irow .u8 (bl (l)))) (results_cell_row Try.results23 _ _ (w.heap.size + 1) _ _ _ _ rfl r1 Try.underlying37 rfl hi0) rfl ⟨rfl, hw⟩

end Go.Proofs.Ytmldmlbmfbdjoab


namespace Go.Proofs.Ytmldmlbmfbdjoab
open Go Go.RowKit Go.Sort

/-! The counter. -/
/-- What is carried into the k-th byte from behind. -/
def cr (l : List B) (n : Nat) : Nat → Nat
  | 0 => n
  | k + 1 => (cr l n k + (gb l (15 - k)).toNat) / 256
def ctb (l : List B) (n i : Nat) : B := BitVec.ofNat 8 (cr l n (15 - i) + (gb l i).toNat)
def ctr (l : List B) (n : Nat) : List B := mk16 (ctb l n)
theorem ctr_len (l : List B) (n : Nat) : (ctr l n).length = 16 := mk16_len _
theorem ctr_get (l : List B) (n : Nat) {i : Nat} (h : i < 16) : gb (ctr l n) i = ctb l n i := mk16_get _ h
/-- The number that the last k bytes are. -/
def low (l : List B) : Nat → Nat
  | 0 => 0
  | k + 1 => low l k + (gb l (15 - k)).toNat * 256 ^ k
theorem low_lt (l : List B) (k : Nat) : low l k < 256 ^ k := by
  induction k with
  | zero => simp [low]
  | succ k ih =>
    rw [low, Nat.pow_succ]
    have h := (gb l (15 - k)).isLt
    have : (gb l (15 - k)).toNat * 256 ^ k ≤ 255 * 256 ^ k := Nat.mul_le_mul_right _ (by omega)
    omega
theorem low_ctr (l : List B) (n k : Nat) (hk : k ≤ 16) : low (ctr l n) k + cr l n k * 256 ^ k = low l k + n := by
  induction k with
  | zero => simp [low, cr]
  | succ k ih =>
    have h := ih (by omega)
    rw [low, low, cr, ctr_get l n (by omega), ctb, show 15 - (15 - k) = k by omega, BitVec.toNat_ofNat, show 256 ^ (k + 1) = 256 ^ k * 256 from Nat.pow_succ _ _]
    generalize hs : cr l n k + (gb l (15 - k)).toNat = s
    have e1 : s % 2 ^ 8 * 256 ^ k + s / 256 * (256 ^ k * 256) = s * 256 ^ k := by
      have := Nat.div_add_mod s 256
      rw [show (2 : Nat) ^ 8 = 256 from rfl, Nat.mul_comm (256 ^ k) 256, ← Nat.mul_assoc, ← Nat.add_mul]
      congr 1; omega
    have e2 : s * 256 ^ k = cr l n k * 256 ^ k + (gb l (15 - k)).toNat * 256 ^ k := by rw [← hs, Nat.add_mul]
    generalize s % 2 ^ 8 * 256 ^ k = A at *
    generalize s / 256 * (256 ^ k * 256) = C at *
    generalize s * 256 ^ k = D at *
    generalize cr l n k * 256 ^ k = E at *
    generalize (gb l (15 - k)).toNat * 256 ^ k = F at *
    omega
theorem lowc_mod (l : List B) (n k : Nat) (hk : k ≤ 16) : low (ctr l n) k = (low l k + n) % 256 ^ k := by
  rw [← low_ctr l n k hk, Nat.add_mul_mod_self_right, Nat.mod_eq_of_lt (low_lt _ _)]
theorem low_ext {a b : List B} (ha : a.length = 16) (hb : b.length = 16) (h : ∀ k ≤ 16, low a k = low b k) : a = b := by
  apply ext16 ha hb
  intro i hi
  have h1 := h (15 - i) (by omega)
  have h2 := h (15 - i + 1) (by omega)
  rw [low, low, h1, show 15 - (15 - i) = i by omega] at h2
  have h3 := Nat.add_left_cancel h2
  have h4 := Nat.eq_of_mul_eq_mul_right (Nat.pow_pos (by decide)) h3
  exact BitVec.eq_of_toNat_eq h4
theorem ctr_ctr (l : List B) (a b : Nat) : ctr (ctr l a) b = ctr l (a + b) := by
  apply low_ext (ctr_len _ _) (ctr_len _ _)
  intro k hk
  rw [lowc_mod _ _ _ hk, lowc_mod _ _ _ hk, lowc_mod _ _ _ hk, Nat.mod_add_mod, Nat.add_assoc]
theorem ctr_zero (l : List B) (hl : l.length = 16) : ctr l 0 = l := by
  apply low_ext (ctr_len _ _) hl
  intro k hk
  rw [lowc_mod _ _ _ hk, Nat.add_zero, Nat.mod_eq_of_lt (low_lt _ _)]

/-! The stream. -/
def sby (K nonce : List B) (i : Nat) : B := gb (enc K (ctr nonce (i / 16))) (i % 16)
def cry (K nonce : List B) (at_ : Nat) (d : List B) : List B := (List.range d.length).map fun i => gb d i ^^^ sby K nonce (at_ + i)
theorem cry_len (K nonce : List B) (at_ : Nat) (d : List B) : (cry K nonce at_ d).length = d.length := by simp [cry]
theorem cry_get (K nonce : List B) (at_ : Nat) (d : List B) (i : Nat) (h : i < d.length) : gb (cry K nonce at_ d) i = gb d i ^^^ sby K nonce (at_ + i) := by
  simp [cry, gb, List.getD_eq_getElem?_getD, h]
theorem ext_gb {a b : List B} (hl : a.length = b.length) (h : ∀ i < a.length, gb a i = gb b i) : a = b := by
  apply List.ext_getElem hl
  intro i h1 h2
  have := h i h1
  rwa [gb, gb, List.getD_eq_getElem?_getD, List.getElem?_eq_getElem h1, List.getD_eq_getElem?_getD, List.getElem?_eq_getElem h2] at this
theorem cry_cry (K nonce : List B) (at_ : Nat) (d : List B) : cry K nonce at_ (cry K nonce at_ d) = d := by
  apply ext_gb (by rw [cry_len, cry_len])
  intro i h
  rw [cry_len, cry_len] at h
  rw [cry_get _ _ _ _ _ (by rw [cry_len]; exact h), cry_get _ _ _ _ _ h, BitVec.xor_assoc, BitVec.xor_self, BitVec.xor_zero]
theorem gb_app_l (a b : List B) (i : Nat) (h : i < a.length) : gb (a ++ b) i = gb a i := by
  rw [gb, gb, List.getD_eq_getElem?_getD, List.getD_eq_getElem?_getD, List.getElem?_append_left h]
theorem gb_app_r (a b : List B) (i : Nat) (h : a.length ≤ i) : gb (a ++ b) i = gb b (i - a.length) := by
  rw [gb, gb, List.getD_eq_getElem?_getD, List.getD_eq_getElem?_getD, List.getElem?_append_right h]
theorem cry_app (K nonce : List B) (at_ : Nat) (a b : List B) : cry K nonce at_ (a ++ b) = cry K nonce at_ a ++ cry K nonce (at_ + a.length) b := by
  apply ext_gb (by rw [cry_len, List.length_append, List.length_append, cry_len, cry_len])
  intro i h
  rw [cry_len] at h
  rw [cry_get _ _ _ _ _ h]
  rw [List.length_append] at h
  by_cases h1 : i < a.length
  · rw [gb_app_l _ _ _ h1, gb_app_l _ _ _ (by rw [cry_len]; exact h1), cry_get _ _ _ _ _ h1]
  · rw [gb_app_r _ _ _ (by omega), gb_app_r _ _ _ (by rw [cry_len]; omega), cry_len, cry_get _ _ _ _ _ (by omega), show at_ + a.length + (i - a.length) = at_ + i by omega]
theorem sby_shift (K nonce : List B) (k i : Nat) : sby K nonce (16 * k + i) = sby K (ctr nonce k) i := by
  rw [sby, sby, ctr_ctr, show (16 * k + i) / 16 = k + i / 16 by omega, show (16 * k + i) % 16 = i % 16 by omega]
theorem cry_shift (K nonce : List B) (k : Nat) (d : List B) : cry K nonce (16 * k) d = cry K (ctr nonce k) 0 d := by
  apply ext_gb (by rw [cry_len, cry_len])
  intro i h
  rw [cry_len] at h
  rw [cry_get _ _ _ _ _ h, cry_get _ _ _ _ _ h, sby_shift, Nat.zero_add]
end Go.Proofs.Ytmldmlbmfbdjoab

namespace Go.Proofs.Ytmldmlbmfbdjoab
open Go Go.RowKit Go.Sort
attribute [local go_sem] setCell_drewN alloc_drewN

/-- How long a slice is. -/
def slen : Value → Nat
  | .slice _ l _ => l
  | _ => 0
theorem slen_own {W : World} {b : Nat} {T : TypeId} {sz : Nat} {v : Value} {n : Nat} {xs : List Value} (h : W.ownsRow b T sz v n xs) : ∃ ao cap, v = .slice ao n cap := by
  obtain ⟨_, ⟨rfl, rfl⟩ | ⟨g, cap, cur, rfl, _⟩⟩ := h
  · exact ⟨_, _, rfl⟩
  · exact ⟨_, _, rfl⟩
theorem info8 : ∃ i, Try.prog.info? 5 = some i ∧ i.zero = some (.int .u8 0) ∧ i.size = 1 ∧ i.bytes = 1 := ⟨_, rfl, rfl, rfl, rfl⟩
theorem new_cell (wr : World) (x : Int) : ∀ j u, [Value.int .u8 x][j]? = some u → (wr.alloc (.cells #[.int .u8 x] 5)).cell? ((⟨wr.heap.size, 0, none⟩ : Addr).add j) = some u := by
  intro j u hu
  have hj : j = 0 := by
    have := (List.getElem?_eq_some_iff.1 hu).1
    simp at this
    exact this
  subst hj
  simp at hu
  subst hu
  rw [addr_add]
  have hg : (wr.alloc (.cells #[.int .u8 x] 5)).heap[wr.heap.size]? = some (.cells #[.int .u8 x] 5 (0, 0)) := hp1_0 wr _
  simp only [World.cell?, hg]
  rfl

/-- An append whose row is either the old one or a new block. -/
theorem wpList_append_two {P : Program} (w : World) {ops : Array Oper} {rest : List Oper} {o : Oper} {a : Act} {Q : Exit → Act → World → Prop} (hgd : o.guard = none) (s x : Operand) (t : TypeId)
    (ho : o.op = .call { callee := .builtin .append, args := #[s, x], argTypes := #[t, t] })
    (base : Nat) (e : TypeId) (i : TypeInfo) (z : Value) (ht : P.underlying t = some (.slice e)) (hi : P.info? e = some i) (hz : i.zero = some z)
    (hsize : i.size = 1) (hby : i.bytes = 1) (hzs : z.cells.size = 1)
    (g n cap : Nat) (xs : List Value) (hs : a.eval s = .slice (some ⟨g, 0, none⟩) n cap) (hown : w.ownsRow base e 1 (.slice (some ⟨g, 0, none⟩) n cap) n xs)
    (ad : Addr) (m c : Nat) (news : List Value) (hx : a.eval x = .slice (some ad) m c) (hl : news.length = m * 1) (hnews : ∀ j u, news[j]? = some u → w.cell? (ad.add j) = some u) (h1 : ∀ u ∈ news, u.oneCell' = true)
    (h63 : n + m ≤ maxLen) (hbytes : (n + m) * 1 ≤ 140737488355328) (hbase : base ≤ w.heap.size)
    (h : ∀ g' cap' w', w'.ownsRow base e 1 (.slice (some ⟨g', 0, none⟩) (n + m) cap') (n + m) (xs ++ news) → w.grownBy w' (some g) → (g' = g ∨ g' = w.heap.size) → wpList P ops Q rest (a.put o.dst (.slice (some ⟨g', 0, none⟩) (n + m) cap')) w') : wpList P ops Q (o :: rest) a w := by
  refine wpList_plain hgd fun K hK => ?_
  obtain ⟨v', w', hr, h2, h3, _⟩ := run_append_own (P := P) w base t o.type e i z 1 1 ht hi hz hsize hby hzs (by decide) _ n xs hown ad m c news hl hnews h1 h63 hbytes hbase
  have key : ∃ g' cap', v' = .slice (some ⟨g', 0, none⟩) (n + m) cap' ∧ (g' = g ∨ g' = w.heap.size) := by
    rcases hown.2 with ⟨hv, _⟩ | ⟨g1, cap1, cur, hv, hbg, hg, hnc, hcm, hcs, htake⟩
    · cases hv
    · cases hv
      by_cases hroom : n + m ≤ cap
      · have hr2 := run_append_room (P := P) w t o.type e i ht hi g n cap cur hg ad m c news (by rw [hsize]; exact hl) hnews h1 hroom (by rw [hsize, hl, hcs]; omega)
        have := hr.symm.trans hr2
        injection this with e1 e2
        exact ⟨g, cap, e1, .inl rfl⟩
      · have holds : ∀ j u, xs[j]? = some u → w.cell? ((⟨g, 0, none⟩ : Addr).add j) = some u := hown.cells (g := g) rfl
        have hr2 := run_append_grow (P := P) w t o.type e i z ht hi hz ⟨g, 0, none⟩ n cap xs (by rw [hsize]; exact hown.1) holds ad m c news (by rw [hsize]; exact hl) hnews (by omega) (by simp only [maxLen] at h63; omega) (growslice_fits (by omega) (by rw [hby]; exact hbytes))
        have := hr.symm.trans hr2
        injection this with e1 e2
        exact ⟨_, _, e1, .inr rfl⟩
  obtain ⟨g', cap', rfl, hgg⟩ := key
  unfold Oper.wp execOp
  simp only [ho, resolve, invoke, builtin, Sem.run_bind, Sem.run_pure, Result.andThen_ok, List.map_toArray, List.map_cons, List.map_nil, hs, hx, hr]
  exact hK _ _ (h g' cap' w' h2 h3 hgg)
set_option maxHeartbeats 2000000 in
/-- Two slices that say the same. -/
theorem same_any (bs : List Int) (w : World) (u v : Value) (hu : Bys w u bs) (hv : Bys w v bs) : Calls Try.prog 6 #[u, v] w fun e w' => e = .returned (.bool true) ∧ Below w.heap.size w w' := by
  obtain ⟨ao, cap, rfl, hl, hc, hz⟩ := hu
  obtain ⟨ao', cap', rfl, _, hc', _⟩ := hv
  generalize hlen : bs.length = len at *
  go_enter Try.func6, Try.ntmps6
  go_wp2
  go_loopw [5] (fun i wr => ∃ k : Nat, k ≤ len ∧ i = .int .i64 k ∧ Below w.heap.size w wr) (fun i _ => len - (intOf i).toNat)
  case atStart => exact ⟨0, by omega, rfl, Below.refl _ _⟩
  case round =>
    obtain ⟨k, hk, rfl, hw⟩ := hrel
    by_cases hlt : k < len
    · have hd : decide ((k : Int) < (len : Int)) = true := by simp; omega
      obtain ⟨b, off, rfl, hb1, hb2⟩ := hc k hlt
      obtain ⟨b', off', rfl, hb1', hb2'⟩ := hc' k hlt
      replace hb2 := (hw.cell (p := ⟨b, off + k, none⟩) hb1).trans hb2
      replace hb2' := (hw.cell (p := ⟨b', off' + k, none⟩) hb1').trans hb2'
      generalize bs.getD k 0 = z at *
      clear hc hc'
      go_wp2
      have k1 : ∀ p : Regrown, (grow (redrawn wr p.d) p.os).cell? ⟨b, off + k, none⟩ = some (.int .u8 z) := fun p => cell_regrown (hb2) p.d p.os
      have k2 : ∀ p : Regrown, (grow (redrawn wr p.d) p.os).cell? ⟨b', off' + k, none⟩ = some (.int .u8 z) := fun p => cell_regrown (hb2') p.d p.os
      refine wp_region_quiet_below (by kernel_rfl) (by kernel_rfl) ?_
      go_big_quiet_step (fail)
      go_big_quiet_step (fail)
      go_big_quiet_step (fail)
      go_big_quiet_step (fail)
      go_big_quiet_step (fail)
      go_big_quiet_step (fail)
      go_big_quiet_step (fail)
      go_big_quiet_step (fail)
      go_big_quiet_step (fail)
      refine wpQuiet_nil ?_
      rintro _ ⟨p, rfl⟩
      have hb := below_regrown wr p.d p.os
      generalize grow (redrawn wr p.d) p.os = w1 at *
      clear k1 k2
      replace hw := Below.after hw hb
      clear hb

      go_wp2
      refine ⟨⟨k + 1, by omega, by go_num, hw⟩, ?_⟩
      simp [intOf]; omega
    · obtain rfl : k = len := by omega
      have hd : decide ((k : Int) < (k : Int)) = false := by simp
      go_wp2
      go_ret
      exact ⟨rfl, hw⟩
theorem grown_trans {a b c : World} {row : Option Nat} {g : Nat} (h : a.grownBy b (some g)) (h2 : b.grownBy c row) (hr : row = none ∨ row = some g ∨ ∃ k, row = some k ∧ a.heap.size ≤ k) : a.grownBy c (some g) := by
  refine ⟨h2.os.trans h.os, h2.tape.trans h.tape, h2.output.trans h.output, Nat.le_trans h.size h2.size, fun k hk hn => ?_⟩
  have h3 := h.size
  refine (h2.block k (by omega) ?_).trans (h.block k hk hn)
  rcases hr with rfl | rfl | ⟨q, rfl, hq⟩
  · simp
  · exact hn
  · intro e; injection e with e; omega
theorem grown_setCell {a b : World} {g j : Nat} {v : Value} (h : a.grownBy b (some g)) : a.grownBy (b.setCell ⟨g, j, none⟩ v) (some g) := by
  refine ⟨h.os, h.tape, h.output, ?_, fun k hk hn => ?_⟩
  · have e : (b.setCell ⟨g, j, none⟩ v).heap.size = b.heap.size := by simp [World.setCell]
    rw [e]; exact h.size
  · rw [heap_setCell_other b ⟨g, j, none⟩ k v (fun e => hn (by rw [e]))]
    exact h.block k hk hn
/-- The marked room behind what is lent. -/
def marks (k : Nat) : List Int := (List.range k).map fun (i : Nat) => 171 + ((i % 60 : Nat) : Int)
theorem marks_succ (k : Nat) : marks (k + 1) = marks k ++ [171 + ((k % 60 : Nat) : Int)] := by simp [marks, List.range_succ]
theorem at_low (bs : List Int) (k : Nat) (hk : k < bs.length) : (bs ++ marks 80).getD k 0 = bs.getD k 0 := by
  simp [List.getD_eq_getElem?_getD, List.getElem?_append_left hk]
theorem at_high (bs : List Int) (k : Nat) (hk : ¬ k < bs.length) (hu : k < bs.length + 80) : (bs ++ marks 80).getD k 0 = 171 + ((k : Int) - bs.length) % 60 := by
  have : k - bs.length < 80 := by omega
  rw [List.getD_eq_getElem?_getD, List.getElem?_append_right (by omega)]
  simp [marks, this]
  omega
end Go.Proofs.Ytmldmlbmfbdjoab

namespace Go.Proofs.Ytmldmlbmfbdjoab
open Go Go.RowKit Go.Sort
attribute [local go_sem] setCell_drewN alloc_drewN

/-! The reference's Inverse, quick, spread. -/
/-- The state of quick. -/
def qst : Nat → B → B × B
  | 0, a => (1#8, a)
  | k + 1, a => (tm (qst k a).1 (tm (qst k a).2 (qst k a).2), tm (qst k a).2 (qst k a).2)
theorem qk_qst (a : B) : ∀ n k, qk n (qst k a).1 (qst k a).2 = (qst (k + n) a).1 := by
  intro n
  induction n with
  | zero => intro k; rfl
  | succ n ih =>
    intro k
    have := ih (k + 1)
    rw [qst] at this
    rw [qk, this]
    congr 2
    omega
set_option maxHeartbeats 1000000 in
theorem r_quick (a : B) : Gives 25 #[.int .u8 (bv a)] (.int .u8 (bv (qk 7 1#8 a))) := by
  intro w
  rw [show qk 7 1#8 a = (qst 7 a).1 from qk_qst a 7 0]
  go_enter Try.func25, Try.ntmps25
  go_wp2_with (fail)
  go_loopw [3, 4, 5] (fun x y i wr => ∃ k : Nat, k ≤ 7 ∧ i = .int .i64 k ∧ x = .int .u8 (bv (qst k a).1) ∧ y = .int .u8 (bv (qst k a).2) ∧ Below w.heap.size w wr) (fun _ _ i _ => 7 - (intOf i).toNat)
  case atStart => exact ⟨0, by omega, rfl, rfl, rfl, Below.refl _ _⟩
  case round =>
    obtain ⟨k, hk, rfl, rfl, rfl, hw⟩ := hrel
    by_cases hlt : k < 7
    · have hd : decide ((k : Int) < 7) = true := by simp; omega
      have e1 : tm (qst k a).1 (tm (qst k a).2 (qst k a).2) = (qst (k + 1) a).1 := rfl
      have e2 : tm (qst k a).2 (qst k a).2 = (qst (k + 1) a).2 := rfl
      have c := r_times (qst k a).2 (qst k a).2
      rw [e2] at c e1
      have c2 := r_times (qst k a).1 (qst (k + 1) a).2
      rw [e1] at c2
      clear e1 e2
      go_wp2_with (fail)
      refine (c.at _).mono ?_
      rintro e w1 ⟨rfl, hb⟩
      go_wp2_with (fail)
      refine (c2.at _).mono ?_
      rintro e w2 ⟨rfl, hb2⟩
      go_wp2
      go_roundw
      case rel => exact ⟨k + 1, by omega, by go_num, rfl, rfl, Below.after (Below.after hw hb) hb2⟩
      case measure => simp [intOf]; omega
    · obtain rfl : k = 7 := by omega
      have hd : decide ((7 : Int) < 7) = false := by decide
      obtain ⟨T, hT⟩ : ∃ T, T = qst 7 a := ⟨_, rfl⟩
      rw [← hT]
      replace hT := hide hT
      clear hlt hk
      go_wp2
      go_ret
      rw [← hT.out]
      exact ⟨rfl, hw⟩
/-- One bit of spread, and spread, as they are put together. -/
def bt (y : B) (i : Nat) : Nat → B
  | 0 => 0#8
  | j + 1 => if j = 0 ∨ 4 ≤ j then bt y i j ^^^ ((y >>> ((i + j) % 8)) &&& 1#8) else bt y i j
def rf (y : B) : Nat → B
  | 0 => 0x63#8
  | i + 1 => rf y i ^^^ (bt y i 8 <<< i)
theorem rf_spr : ∀ y : B, rf y 8 = spr y := by decide +kernel
theorem e_bit (y : B) (n : Nat) : bv y / 2 ^ n % 2 = bv ((y >>> n) &&& 1#8) := by
  unfold bv
  rw [BitVec.toNat_and, BitVec.toNat_ushiftRight, Nat.shiftRight_eq_div_pow]
  rw [show BitVec.toNat 1#8 = 1 from rfl, Nat.and_one_is_mod]
  simp
theorem e_tbit (y : B) (n : Nat) : (bv y / 2 ^ n).tmod 2 = bv ((y >>> n) &&& 1#8) := by
  rw [Int.tmod_eq_emod_of_nonneg, e_bit]
  exact Int.ediv_nonneg (bnd y).1 (Int.pow_nonneg (by decide))
theorem e_shl (c : B) (n : Nat) : bv c * 2 ^ n % 256 = bv (c <<< n) := by
  unfold bv
  rw [BitVec.toNat_shiftLeft, Nat.shiftLeft_eq]
  simp
set_option maxHeartbeats 1000000 in
theorem r_spread (y : B) : Gives 24 #[.int .u8 (bv y)] (.int .u8 (bv (spr y))) := by
  intro w
  rw [← rf_spr]
  have hy := bnd y
  go_enter Try.func24, Try.ntmps24
  go_wp2_with (fail)
  go_loopw [3, 4] (fun x i wr => ∃ k : Nat, k ≤ 8 ∧ i = .int .i64 k ∧ x = .int .u8 (bv (rf y k)) ∧ Below w.heap.size w wr) (fun _ i _ => 8 - (intOf i).toNat)
  case atStart => exact ⟨0, by omega, rfl, rfl, Below.refl _ _⟩
  case round =>
    obtain ⟨k, hk, rfl, rfl, hw⟩ := hrel
    by_cases hlt : k < 8
    · have hd : decide ((k : Int) < 8) = true := by simp; omega
      have hr := bnd (rf y k)
      obtain ⟨R, hR⟩ : ∃ R, R = rf y k := ⟨_, rfl⟩
      rw [← hR] at hr ⊢
      replace hR := hide hR
      go_wp2_with (fail)
      go_loopw [5, 6] (fun x j W => ∃ l : Nat, l ≤ 8 ∧ j = .int .i64 l ∧ x = .int .u8 (bv (bt y k l)) ∧ W = wr) (fun _ j _ => 8 - (intOf j).toNat)
      case atStart => exact ⟨0, by omega, rfl, rfl, rfl⟩
      case round =>
        obtain ⟨l, hl, rfl, rfl, rfl⟩ := hrel
        by_cases hl8 : l < 8
        · have hd : decide ((l : Int) < 8) = true := by simp; omega
          have hb := bnd (bt y k l)
          by_cases hq : l = 0 ∨ 4 ≤ l
          · have hst : Hid (bt y k (l + 1) = bt y k l ^^^ ((y >>> ((k + l) % 8)) &&& 1#8)) := hide (by rw [bt, if_pos hq])
            rcases hq with hl0 | hl4
            · subst hl0
              go_wp2
              refine ⟨⟨1, by omega, rfl, ?_, trivial⟩, by simp [intOf]⟩
              rw [show (1 : Nat) = 0 + 1 from rfl, hst.out, ← xor8, ← e_tbit, Nat.add_zero]
            · have h0 : ¬ l = 0 := by omega
              have h4 : (4 : Int) ≤ (l : Int) := by omega
              go_wp2
              refine ⟨⟨l + 1, by omega, by go_num, ?_, trivial⟩, by simp [intOf]; omega⟩
              rw [hst.out, ← xor8, ← e_tbit]
          · have hst : Hid (bt y k (l + 1) = bt y k l) := hide (by rw [bt, if_neg hq])
            have h0 : ¬ l = 0 := by omega
            have h4 : ¬ (4 : Int) ≤ (l : Int) := by omega
            go_wp2
            refine ⟨⟨l + 1, by omega, by go_num, by rw [hst.out], trivial⟩, by simp [intOf]; omega⟩
        · obtain rfl : l = 8 := by omega
          have hd : decide ((8 : Int) < 8) = false := by decide
          have hst : Hid (rf y (k + 1) = R ^^^ (bt y k 8 <<< k)) := hide (by rw [hR.out, rf])
          generalize bt y k 8 = C at *
          have hb := bnd C
          go_wp2
          refine ⟨⟨k + 1, by omega, by go_num, ?_, hw⟩, by simp [intOf]; omega⟩
          rw [hst.out, ← xor8, ← e_shl]
    · obtain rfl : k = 8 := by omega
      have hd : decide ((8 : Int) < 8) = false := by decide
      obtain ⟨T, hT⟩ : ∃ T, T = rf y 8 := ⟨_, rfl⟩
      rw [← hT]
      replace hT := hide hT
      clear hlt hk
      go_wp2
      go_ret
      rw [← hT.out]
      exact ⟨rfl, hw⟩
set_option maxRecDepth 100000 in
set_option maxHeartbeats 4000000 in
theorem r_table : Gives 13 #[] (.agg (irow .u8 (bl sbl))) := by
  intro w
  have hz : ∀ W : World, (Instr.alloc 42 true (.tuple #[])).run Try.prog W = .ok (.pointer (some ⟨W.heap.size, 0, none⟩)) (W.alloc (.cells (irow .u8 (bl (pt (fun x => sb (BitVec.ofNat 8 x)) 256 0))) 42)) := by rw [← zr_pt]; exact z256
  have R0 := hp2_0 w (.cells (irow .u8 (bl (pt (fun x => sb (BitVec.ofNat 8 x)) 256 0))) 42) (.cells (irow .u8 (bl (pt (fun x => sb (BitVec.ofNat 8 x)) 256 0))) 42)
  have R1 := hp2_1 w (.cells (irow .u8 (bl (pt (fun x => sb (BitVec.ofNat 8 x)) 256 0))) 42) (.cells (irow .u8 (bl (pt (fun x => sb (BitVec.ofNat 8 x)) 256 0))) 42)
  have HW := (((Below.refl w.heap.size w).alloc (Nat.le_refl _) (.cells (irow .u8 (bl (pt (fun x => sb (BitVec.ofNat 8 x)) 256 0))) 42)).alloc (by simp) (.cells (irow .u8 (bl (pt (fun x => sb (BitVec.ofNat 8 x)) 256 0))) 42))
  go_enter Try.func13, Try.ntmps13
  go_wp2_with (first | (refine wpList_alloc rfl 42 rfl (irow .u8 (bl (pt (fun x => sb (BitVec.ofNat 8 x)) 256 0))) hz ?_) | fail)
  clear hz
  generalize World.alloc _ _ = w0 at *
  go_loopw [2] (fun i wr => ∃ k : Nat, k ≤ 256 ∧ i = .int .i64 k ∧ wr.heap[w.heap.size]? = some (.cells (irow .u8 (bl (pt (fun x => sb (BitVec.ofNat 8 x)) 256 0))) 42 (0, 0)) ∧ wr.heap[w.heap.size + 1]? = some (.cells (irow .u8 (bl (pt (fun x => sb (BitVec.ofNat 8 x)) 256 k))) 42 (0, 0)) ∧ Below w.heap.size w wr) (fun i _ => 256 - (intOf i).toNat)
  case atStart => exact ⟨0, by omega, rfl, R0, R1, HW⟩
  case round =>
    clear R0 R1 HW
    obtain ⟨k, hk, rfl, r0, r1, hw⟩ := hrel
    by_cases hlt : k < 256
    · have hd : decide ((k : Int) < 256) = true := by simp; omega
      have c1 := r_quick (BitVec.ofNat 8 k)
      have c2 := r_spread (qk 7 1#8 (BitVec.ofNat 8 k))
      rw [← sb_qk] at c2
      rw [of_bv k hlt] at c1
      have hset := hide (pt_set (fun x => sb (BitVec.ofNat 8 x)) 256 k hlt)
      go_wp2_with (fail)
      refine (c1.at _).mono ?_
      rintro e w1 ⟨rfl, hb⟩
      replace r0 := keep hb r0
      replace r1 := keep hb r1
      replace hw := Below.after hw hb
      clear hb c1
      go_wp2_with (fail)
      refine (c2.at _).mono ?_
      rintro e w2 ⟨rfl, hb⟩
      replace r0 := keep hb r0
      replace r1 := keep hb r1
      replace hw := Below.after hw hb
      clear hb c2
      have c0 := brow_cell r1 (j := k) (by rw [pt_len]; exact hlt)
      have hf := row_frozen r1 k
      go_wp2
      refine ⟨⟨k + 1, by omega, by go_num, heap_other r0 (by omega), by rw [← hset.out]; exact brow_set r1 k _, hw.setCell (show w.heap.size ≤ w.heap.size + 1 by omega) _⟩, by simp [intOf]; omega⟩
    · obtain rfl : k = 256 := by omega
      have hd : decide ((256 : Int) < 256) = false := by decide
      replace r1 : wr.heap[w.heap.size + 1]? = some (.cells (irow .u8 (bl sbl)) 42 (0, 0)) := r1
      have hin := info256 sbl sbl_len
      have hfi := fit256 (pt (fun x => sb (BitVec.ofNat 8 x)) 256 0) sbl (pt_len _ _ _) sbl_len
      clear hk hlt
      go_wp2_with (first | (refine wpList_load_want rfl 42 _ rfl (w.heap.size + 1) rfl 42 (irow .u8 (bl sbl)) (0, 0) _ r1 Try.underlying42 rfl hin ?_) | (refine wpList_store_row rfl 42 _ _ rfl (w.heap.size) (irow .u8 (bl sbl)) rfl rfl 42 _ r0 hin hfi (irow_one _ _) ?_) | fail)
      replace r0 := setRow_heap wr (w.heap.size) _ (irow .u8 (bl sbl)) _ _ r0
      replace hw := below_setRow hw (Nat.le_refl _) (irow .u8 (bl sbl))
      generalize wr.setRow (w.heap.size) (irow .u8 (bl sbl)) = w9 at *
      exact bodyPost_ret (v := .agg (irow .u8 (bl sbl))) (results_cell_row Try.results13 _ _ (w.heap.size) _ _ _ _ rfl r0 Try.underlying42 rfl hin) rfl ⟨rfl, hw⟩
theorem sb_eq_iff (x : B) (k : Nat) (hk : k < 256) : sb (BitVec.ofNat 8 k) = x ↔ k = (bk x).toNat := by
  constructor
  · intro h
    rw [← h, bk_sb, BitVec.toNat_ofNat]; omega
  · intro h
    rw [h, BitVec.ofNat_toNat, BitVec.setWidth_eq, sb_bk]
end Go.Proofs.Ytmldmlbmfbdjoab
