import Derived.Test.YtamieopjigjfiabDoorWa
import Derived.Test.YtamieopjigjfiabDoorBa
import Derived.Test.YtamieopjigjfiabDoorProg
import Derived.WalkKit
import Derived.WalkSpells
import Derived.WalkLawsBesides
import Derived.Lib.QuietBelow
import Derived.BigQuiet
import Derived.Test.YtamieopjigjfiabDoorKa
import Derived.Deep.RegionHeld3
namespace Go.Proofs.YtamieopjigjfiabDoor
set_option maxRecDepth 100000
open Go Go.RowKit Go.Sort
attribute [local go_sem] setCell_drewN alloc_drewN

/-! Bytes as numbers. -/
def bv (a : B) : Int := (a.toNat : Int)
theorem bnd (a : B) : 0 ≤ bv a ∧ bv a < 256 := by
  have := a.isLt
  unfold bv
  omega
theorem ofInt_toNat {n : Nat} (a : BitVec n) : BitVec.ofInt n (a.toNat : Int) = a := by
  rw [BitVec.ofInt_natCast, BitVec.ofNat_toNat, BitVec.setWidth_eq]
theorem wrap85 (a : BitVec 8) : IntKind.u8.wrap (a.toNat : Int) = (a.toNat : Int) := by
  rw [IntKind.wrap_u8]; have := a.isLt; omega
theorem wrap32 (a : BitVec 32) : IntKind.u32.wrap (a.toNat : Int) = (a.toNat : Int) := by
  rw [IntKind.wrap_u32]; have := a.isLt; omega
theorem bv_nat (a : B) : (bv a).toNat = a.toNat := rfl
theorem bv_inj {a b : B} : bv a = bv b ↔ a = b := by
  constructor
  · intro h; apply BitVec.eq_of_toNat_eq; unfold bv at h; omega
  · rintro rfl; rfl
theorem xor8 (a b : B) : bits .xor .u8 (bv a) (bv b) = bv (a ^^^ b) := by
  show IntKind.u8.wrap ((BitVec.ofInt 8 a.toNat ^^^ BitVec.ofInt 8 b.toNat).toNat : Int) = _
  rw [ofInt_toNat, ofInt_toNat, wrap85]; rfl
theorem e_dbl : ∀ a : B, bits .xor .u8 (bv a * 2 % 256) (bv a / 128 * 27) = bv (dbl a) := by decide +kernel
theorem e_dbl_hi : ∀ a : B, bv a ≥ 128 → bits .xor .u8 (bv a * 2 % 256) 27 = bv (dbl a) := by decide +kernel
theorem e_dbl_lo : ∀ a : B, ¬ bv a ≥ 128 → bv a * 2 = bv (dbl a) := by decide +kernel
set_option maxHeartbeats 1000000 in
theorem a_twice (a : B) : Gives 49 #[.int .u8 (bv a)] (.int .u8 (bv (dbl a))) := by
  intro w
  have e := e_dbl a
  have hb := bnd a
  go_enter Tryd.func49, Tryd.ntmps49
  go_wp2
  go_ret
  exact ⟨rfl, Below.refl _ _⟩
/-! Times of both. -/
theorem tmn_zero (n : Nat) : ∀ a, tmn n a 0#8 = 0#8 := by
  induction n with
  | zero => intro a; rfl
  | succ n ih => intro a; simp [tmn, ih]
theorem tm_eight (a b : B) : tmn 9 a b = tmn 8 a b := by
  have h : ∀ n a b, tmn (n + 1) a b = tmn n a b ^^^ (if b.getLsbD n then (Nat.repeat dbl n a) else 0#8) := by
    intro n
    induction n with
    | zero => intro a b; simp [tmn, Nat.repeat]
    | succ n ih =>
      intro a b
      rw [tmn, ih, tmn]
      have e : ∀ (n : Nat) (a : B), Nat.repeat dbl n (dbl a) = Nat.repeat dbl (n + 1) a := by
        intro n
        induction n with
        | zero => intro a; rfl
        | succ n ih => intro a; rw [Nat.repeat, ih]; rfl
      rw [e, BitVec.getLsbD_ushiftRight, Nat.add_comm 1 n, BitVec.xor_assoc]
  rw [h 8 a b]
  simp
theorem tm_step (a b : B) : tm a b = (if b.getLsbD 0 then a else 0#8) ^^^ tm (dbl a) (b >>> 1) := by
  rw [tm, ← tm_eight, tmn, tm]
theorem low_and : ∀ b : B, bits .and .u8 (bv b) 1 = if b.getLsbD 0 then 1 else 0 := by decide +kernel
theorem low_mod : ∀ b : B, bv b % 2 = if b.getLsbD 0 then 1 else 0 := by decide +kernel
theorem half_of (b : B) : bv b / 2 = bv (b >>> 1) := by
  unfold bv
  rw [BitVec.toNat_ushiftRight, Nat.shiftRight_eq_div_pow]; rfl
theorem bv_pos {q : B} (h : q ≠ 0#8) : 0 < bv q := by
  have : q.toNat ≠ 0 := fun e => h (BitVec.eq_of_toNat_eq (by simpa using e))
  unfold bv; omega
end Go.Proofs.YtamieopjigjfiabDoor

namespace Go.Proofs.YtamieopjigjfiabDoor
set_option maxRecDepth 100000
open Go Go.RowKit Go.Sort
attribute [local go_sem] setCell_drewN alloc_drewN


/-! Rows of bytes. -/
def bl (l : List B) : List Int := l.map bv
theorem bl_len (l : List B) : (bl l).length = l.length := by simp [bl]
theorem bl_get (l : List B) (j : Nat) : (bl l).getD j 0 = bv (l.getD j 0#8) := by
  simp only [bl, List.getD_eq_getElem?_getD, List.getElem?_map]
  cases l[j]? <;> rfl
theorem bl_set (l : List B) (j : Nat) (z : B) : (bl l).set j (bv z) = bl (l.set j z) := by
  simp [bl, List.map_set]
theorem bl_zr (n : Nat) : bl (List.replicate n 0#8) = zr n := by
  simp only [bl, zr, List.map_replicate]; rfl
theorem bl_bnd (l : List B) : ∀ z ∈ bl l, 0 ≤ z ∧ z < 256 := by
  intro z h
  obtain ⟨b, _, rfl⟩ := List.mem_map.1 h
  exact bnd b
theorem brow_cell {W : World} {g : Nat} {l : List B} {t : TypeId} (hg : W.heap[g]? = some (.cells (irow .u8 (bl l)) t (0, 0))) {j : Nat} (hj : j < l.length) : W.cell? ⟨g, j, none⟩ = some (.int .u8 (bv (l.getD j 0#8))) := by
  rw [← bl_get]; exact irow_cell hg (by rw [bl_len]; exact hj)
theorem brow_set {W : World} {g : Nat} {l : List B} {t : TypeId} (hg : W.heap[g]? = some (.cells (irow .u8 (bl l)) t (0, 0))) (j : Nat) (z : B) : (W.setCell ⟨g, j, none⟩ (.int .u8 (bv z))).heap[g]? = some (.cells (irow .u8 (bl (l.set j z))) t (0, 0)) := by
  rw [← bl_set]; exact irow_set hg j (bv z)
theorem brow_at (l : List B) (j : Nat) (hj : j < l.length) : (irow .u8 (bl l))[j]? = some (.int .u8 (bv (l.getD j 0#8))) := by
  rw [← bl_get]; exact irow_get .u8 _ j (by rw [bl_len]; exact hj)
theorem brow_put (l : List B) (j : Nat) (z : B) : (irow .u8 (bl l)).setIfInBounds j (.int .u8 (bv z)) = irow .u8 (bl (l.set j z)) := by
  simp [irow, bl, List.map_set]
theorem pt_zero (W : Nat → B) (n : Nat) : pt W n 0 = List.replicate n 0#8 := by
  apply List.ext_getElem (by simp [pt])
  intro i h1 h2
  simp [pt]
theorem zr_pt (W : Nat → B) (n : Nat) : zr n = bl (pt W n 0) := by rw [pt_zero, bl_zr]
theorem z256 (W : World) : (Instr.alloc 74 true (.tuple #[])).run Tryd.prog W = .ok (.pointer (some ⟨W.heap.size, 0, none⟩)) (W.alloc (.cells (irow .u8 (zr 256)) 74)) := by kernel_rfl
theorem info256 (l : List B) (h : l.length = 256) : (Tryd.prog.info? 74).map (·.size) = some (irow .u8 (bl l)).size := by
  rw [irow_size, bl_len, h]; kernel_rfl
theorem fit256 (l m : List B) (h : l.length = 256) (h2 : m.length = 256) : (irow .u8 (bl l)).size = (irow .u8 (bl m)).size := by
  rw [irow_size, irow_size, bl_len, bl_len, h, h2]
/-- An array's element by its place. -/
theorem index_row {t e : TypeId} {n : Nat} {kk ik : IntKind} {i0 : TypeInfo} (ht : Tryd.prog.underlying t = some (.array n e)) (hu : Tryd.prog.underlying e = some (.int kk)) (hi : Tryd.prog.info? e = some i0) (hs : ∀ W, (sizeOf e).run Tryd.prog W = .ok 1 W) (l : List Int) (hl : l.length = n) (j : Nat) (hj : j < n) (W : World) :
    (Instr.index t (.agg (irow kk l)) (.int ik (j : Int))).run Tryd.prog W = .ok (.int kk (l.getD j 0)) W := by
  have hp := run_part_int (P := Tryd.prog) W hu hi l j (by omega)
  have e : l.getD j 0 = l[j]'(by omega) := by simp [List.getD_eq_getElem?_getD, List.getElem?_eq_getElem (show j < l.length by omega)]
  rw [e]
  unfold Instr.index
  have h2 : (0 : Int) ≤ (j : Int) ∧ (j : Int) < ((n : Nat) : Int) := by omega
  simp only [asIntOf, Sem.run_bind, Sem.run_pure, Result.andThen_ok, run_underlying ht W, if_pos h2, hs, Int.toNat_natCast, Nat.mul_one]
  exact hp
theorem index256 (l : List B) (hl : l.length = 256) (j : Nat) (hj : j < 256) (W : World) : (Instr.index 74 (.agg (irow .u8 (bl l))) (.int .i64 (j : Int))).run Tryd.prog W = .ok (.int .u8 (bv (l.getD j 0#8))) W := by
  obtain ⟨i0, hi⟩ : ∃ i, Tryd.prog.info? 5 = some i := ⟨_, rfl⟩
  rw [← bl_get]
  exact index_row Tryd.underlying74 Tryd.underlying5 hi (fun W => by kernel_rfl) (bl l) (by rw [bl_len, hl]) j hj W

set_option maxRecDepth 100000 in
set_option maxHeartbeats 4000000 in
theorem a_inverses : Gives 45 #[] (.agg (irow .u8 (bl (pt iv 256 256)))) := by
  intro w
  have hz : ∀ W : World, (Instr.alloc 74 true (.tuple #[])).run Tryd.prog W = .ok (.pointer (some ⟨W.heap.size, 0, none⟩)) (W.alloc (.cells (irow .u8 (bl (pt iv 256 0))) 74)) := by rw [← zr_pt]; exact z256
  have R0 := hp3_0 w (.cells (irow .u8 (bl (pt iv 256 0))) 74) (.cells (irow .u8 (bl (pt pw 256 1))) 74) (.cells (irow .u8 (bl (pt iv 256 0))) 74)
  have R1 := hp3_1 w (.cells (irow .u8 (bl (pt iv 256 0))) 74) (.cells (irow .u8 (bl (pt pw 256 1))) 74) (.cells (irow .u8 (bl (pt iv 256 0))) 74)
  have R2 := hp3_2 w (.cells (irow .u8 (bl (pt iv 256 0))) 74) (.cells (irow .u8 (bl (pt pw 256 1))) 74) (.cells (irow .u8 (bl (pt iv 256 0))) 74)
  have HW : Below w.heap.size w (((w.alloc (.cells (irow .u8 (bl (pt iv 256 0))) 74)).alloc (.cells (irow .u8 (bl (pt pw 256 1))) 74)).alloc (.cells (irow .u8 (bl (pt iv 256 0))) 74)) := ((((Below.refl _ _).alloc (Nat.le_refl _) _).alloc (by simp) _).alloc (by simp; omega) _)

  have hc0 := brow_at (pt iv 256 0) 0 (by rw [pt_len]; omega)
  have e1 : ((irow .u8 (bl (pt iv 256 0)))).setIfInBounds 0 (.int .u8 1) = (irow .u8 (bl (pt pw 256 1))) := by
    have := brow_put (pt iv 256 0) 0 (pw 0)
    rw [show pt iv 256 0 = pt pw 256 0 by rw [pt_zero, pt_zero], pt_set pw 256 0 (by omega), pw_zero] at this
    rw [← this, show pt iv 256 0 = pt pw 256 0 by rw [pt_zero, pt_zero]]; rfl
  go_enter Tryd.func45, Tryd.ntmps45
  go_wp2_with (first | (refine wpList_alloc rfl 74 rfl (irow .u8 (bl (pt iv 256 0))) hz ?_) | fail)
  clear hz hc0 e1
  generalize (((w.alloc (.cells (irow .u8 (bl (pt iv 256 0))) 74)).alloc (.cells (irow .u8 (bl (pt pw 256 1))) 74)).alloc (.cells (irow .u8 (bl (pt iv 256 0))) 74)) = w0 at *
  go_loopw [7] (fun i wr => ∃ k : Nat, k ≤ 255 ∧ i = .int .i64 k ∧ wr.heap[w.heap.size]? = some (.cells (irow .u8 (bl (pt iv 256 0))) 74 (0, 0)) ∧ wr.heap[w.heap.size + 1]? = some (.cells (irow .u8 (bl (pt pw 256 (k + 1)))) 74 (0, 0)) ∧ wr.heap[w.heap.size + 1 + 1]? = some (.cells (irow .u8 (bl (pt iv 256 0))) 74 (0, 0)) ∧ Below w.heap.size w wr) (fun i _ => 255 - (intOf i).toNat)
  case atStart => exact ⟨0, by omega, rfl, R0, R1, R2, HW⟩
  case round =>
    clear R0 R1 R2 HW
    obtain ⟨k, hk, rfl, r0, r1, r2, hw⟩ := hrel
    by_cases hlt : k < 255
    · have hd : decide ((k : Int) < 255) = true := by simp; omega
      have c0 := brow_cell r1 (j := k) (by rw [pt_len]; omega)
      rw [pt_get pw 256 (k + 1) (by omega) (by omega)] at c0
      have ct := a_twice (pw k)
      have hx := xor8 (pw k) (dbl (pw k))
      have hset := hide (pt_set pw 256 (k + 1) (by omega))
      rw [pw_succ k hlt] at hset
      have b0 := bnd (pw k)
      go_wp2_with (fail)
      have k0 : ∀ p : Regrown, (grow (redrawn wr p.d) p.os).cell? ⟨w.heap.size + 1, k, none⟩ = some (.int .u8 (bv (pw k))) := fun p => cell_regrown (c0) p.d p.os
      refine wp_region_tail (C := fun w' => ∃ p : Regrown, w' = grow (redrawn wr p.d) p.os) 11 _ rfl rfl rfl (by kernel_rfl) (by kernel_rfl) (by kernel_rfl) (by kernel_rfl) ⟨⟨wr.drawn + 1, #[]⟩, by rw [grow_empty]; rfl⟩ ?_
      dsimp only [List.set, idle]
      go_big_quiet_step (fail)
      go_big_quiet_step (fail)
      go_big_quiet_step (fail)
      go_big_quiet_step (fail)
      go_big_quiet_step (fail)
      go_big_quiet_step (fail)
      go_big_quiet_step (fail)
      go_big_quiet_step (fail)
      go_big_quiet_step (exact ct.re)
      go_big_quiet_step (fail)
      go_big_quiet_step (fail)
      refine wpQuiet_idle rfl rfl rfl ?_
      rintro _ ⟨p, rfl⟩
      have hb := below_regrown wr p.d p.os
      generalize grow (redrawn wr p.d) p.os = w1 at *
      clear k0
      replace r0 := keep hb r0
      replace r1 := keep hb r1
      replace r2 := keep hb r2
      replace hw := Below.after hw hb
      clear hb

      have c1 := brow_cell r1 (j := k + 1) (by rw [pt_len]; omega)
      have hf := row_frozen r1 (k + 1)
      clear c0 ct
      go_wp2
      refine ⟨⟨k + 1, by omega, by go_num, heap_other r0 (by omega), by rw [← hset.out]; exact brow_set r1 (k + 1) _, heap_other r2 (by omega), hw.setCell (show w.heap.size ≤ w.heap.size + 1 by omega) _⟩, by simp [intOf]; omega⟩
    · obtain rfl : k = 255 := by omega
      have hd : decide ((255 : Int) < 255) = false := by decide
      have hin := info256 (pt pw 256 256) (pt_len _ _ _)
      clear hk hlt
      go_wp2_with (first | (refine wpList_load_want rfl 74 _ rfl (w.heap.size + 1) rfl 74 (irow .u8 (bl (pt pw 256 256))) (0, 0) _ r1 Tryd.underlying74 rfl hin ?_) | fail)
      go_loopw [23] (fun i wr => ∃ k : Nat, k ≤ 256 ∧ i = .int .i64 k ∧ wr.heap[w.heap.size]? = some (.cells (irow .u8 (bl (pt iv 256 0))) 74 (0, 0)) ∧ wr.heap[w.heap.size + 1]? = some (.cells (irow .u8 (bl (pt pw 256 256))) 74 (0, 0)) ∧ wr.heap[w.heap.size + 1 + 1]? = some (.cells (irow .u8 (bl (ou k))) 74 (0, 0)) ∧ Below w.heap.size w wr) (fun i _ => 256 - (intOf i).toNat)
      case atStart => exact ⟨0, by omega, rfl, r0, r1, by rw [pt_zero] at r2; exact r2, hw⟩
      case round =>
        clear r0 r1 r2 hw hd hin
        obtain ⟨k, hk, rfl, r0, r1, r2, hw⟩ := hrel
        by_cases hlt : k < 256
        · have hd : decide ((k : Int) < 256) = true := by simp; omega
          have hix := index256 (pt pw 256 256) (pt_len _ _ _) k hlt wr
          rw [pt_get pw 256 256 (by omega) (by omega)] at hix
          have c0 := brow_cell r1 (j := 255 - k) (by rw [pt_len]; omega)
          rw [pt_get pw 256 256 (by omega) (by omega)] at c0
          have hp := bnd (pw k)
          have e5 : (255 - (k : Int)).toNat = 255 - k := by omega
          have e6 := bv_nat (pw k)
          have c1 := brow_cell r2 (j := (pw k).toNat) (by rw [ou, fil_len]; exact (pw k).isLt)
          have hf := row_frozen r2 (pw k).toNat
          go_wp2
          refine ⟨⟨k + 1, by omega, by go_num, heap_other r0 (by omega), heap_other r1 (by omega), brow_set r2 _ _, hw.setCell (show w.heap.size ≤ w.heap.size + 1 + 1 by omega) _⟩, by simp [intOf]; omega⟩
        · obtain rfl : k = 256 := by omega
          have hd : decide ((256 : Int) < 256) = false := by decide
          rw [ou_all] at r2
          have hin := info256 (pt iv 256 256) (pt_len _ _ _)
          have hfi := fit256 (pt iv 256 0) (pt iv 256 256) (pt_len _ _ _) (pt_len _ _ _)
          clear hk hlt
          go_wp2_with (first | (refine wpList_load_want rfl 74 _ rfl (w.heap.size + 1 + 1) rfl 74 (irow .u8 (bl (pt iv 256 256))) (0, 0) _ r2 Tryd.underlying74 rfl hin ?_) | (refine wpList_store_row rfl 74 _ _ rfl (w.heap.size) (irow .u8 (bl (pt iv 256 256))) rfl rfl 74 _ r0 hin hfi (irow_one _ _) ?_) | fail)
          replace r0 := setRow_heap wr (w.heap.size) _ (irow .u8 (bl (pt iv 256 256))) _ _ r0
          replace hw := below_setRow hw (Nat.le_refl _) (irow .u8 (bl (pt iv 256 256)))
          generalize wr.setRow (w.heap.size) (irow .u8 (bl (pt iv 256 256))) = w9 at *
          exact bodyPost_ret (v := .agg (irow .u8 (bl (pt iv 256 256)))) (results_cell_row Tryd.results45 _ _ (w.heap.size) _ _ _ _ rfl r0 Tryd.underlying74 rfl hin) rfl ⟨rfl, hw⟩

end Go.Proofs.YtamieopjigjfiabDoor


namespace Go.Proofs.YtamieopjigjfiabDoor
set_option maxRecDepth 100000
open Go Go.RowKit Go.Sort
attribute [local go_sem] setCell_drewN alloc_drewN

theorem e_rot4 : ∀ y : B, bits .or .u8 (bv y * 16 % 256) (bv y / 16) = bv (y.rotateLeft 4) := by decide +kernel
set_option maxHeartbeats 1000000 in
theorem a_rot4 (y : B) : Gives 59 #[.int .u8 (bv y), .int .i64 (-4)] (.int .u8 (bv (y.rotateLeft 4))) := by
  intro w
  have ha : bits .and .u64 (IntKind.u64.wrap (-4)) 7 = 4 := by decide +kernel
  have hb := bnd y
  have e := hide (e_rot4 y)
  generalize bv (y.rotateLeft 4) = z at *
  go_enter Tryd.func59, Tryd.ntmps59
  go_wp2_with (simp only [ha])
  go_ret
  obtain rfl := e.out
  exact ⟨rfl, Below.refl _ _⟩
theorem e_rot5 : ∀ y : B, bits .or .u8 (bv y * 8 % 256) (bv y / 32) = bv (y.rotateLeft 3) := by decide +kernel
set_option maxHeartbeats 1000000 in
theorem a_rot5 (y : B) : Gives 59 #[.int .u8 (bv y), .int .i64 (-5)] (.int .u8 (bv (y.rotateLeft 3))) := by
  intro w
  have ha : bits .and .u64 (IntKind.u64.wrap (-5)) 7 = 3 := by decide +kernel
  have hb := bnd y
  have e := hide (e_rot5 y)
  generalize bv (y.rotateLeft 3) = z at *
  go_enter Tryd.func59, Tryd.ntmps59
  go_wp2_with (simp only [ha])
  go_ret
  obtain rfl := e.out
  exact ⟨rfl, Below.refl _ _⟩
theorem e_rot6 : ∀ y : B, bits .or .u8 (bv y * 4 % 256) (bv y / 64) = bv (y.rotateLeft 2) := by decide +kernel
set_option maxHeartbeats 1000000 in
theorem a_rot6 (y : B) : Gives 59 #[.int .u8 (bv y), .int .i64 (-6)] (.int .u8 (bv (y.rotateLeft 2))) := by
  intro w
  have ha : bits .and .u64 (IntKind.u64.wrap (-6)) 7 = 2 := by decide +kernel
  have hb := bnd y
  have e := hide (e_rot6 y)
  generalize bv (y.rotateLeft 2) = z at *
  go_enter Tryd.func59, Tryd.ntmps59
  go_wp2_with (simp only [ha])
  go_ret
  obtain rfl := e.out
  exact ⟨rfl, Below.refl _ _⟩
theorem e_rot7 : ∀ y : B, bits .or .u8 (bv y * 2 % 256) (bv y / 128) = bv (y.rotateLeft 1) := by decide +kernel
set_option maxHeartbeats 1000000 in
theorem a_rot7 (y : B) : Gives 59 #[.int .u8 (bv y), .int .i64 (-7)] (.int .u8 (bv (y.rotateLeft 1))) := by
  intro w
  have ha : bits .and .u64 (IntKind.u64.wrap (-7)) 7 = 1 := by decide +kernel
  have hb := bnd y
  have e := hide (e_rot7 y)
  generalize bv (y.rotateLeft 1) = z at *
  go_enter Tryd.func59, Tryd.ntmps59
  go_wp2_with (simp only [ha])
  go_ret
  obtain rfl := e.out
  exact ⟨rfl, Below.refl _ _⟩
/-- Where a walk shall stop. -/
def WpStay (p : Prop) : Prop := p
theorem wpList_stay {P : Program} {ops : Array Oper} {rest : List Oper} {a : Act} {w : World} {Q : Exit → Act → World → Prop} (h : WpStay (wpList P ops Q rest a w)) : wpList P ops Q rest a w := h
set_option maxHeartbeats 1000000 in
theorem a_spread5 (y : B) : Gives 46 #[.int .u8 (bv y)] (.int .u8 (bv (spr y))) := by
  intro w
  have c4 := a_rot4 y
  have c5 := a_rot5 y
  have c6 := a_rot6 y
  have c7 := a_rot7 y
  have x1 := xor8 y (y.rotateLeft 4)
  have x2 := xor8 (y ^^^ y.rotateLeft 4) (y.rotateLeft 3)
  have x3 := xor8 (y ^^^ y.rotateLeft 4 ^^^ y.rotateLeft 3) (y.rotateLeft 2)
  have x4 := xor8 (y ^^^ y.rotateLeft 4 ^^^ y.rotateLeft 3 ^^^ y.rotateLeft 2) (y.rotateLeft 1)
  have x5 : bits .xor .u8 (bv (y ^^^ y.rotateLeft 4 ^^^ y.rotateLeft 3 ^^^ y.rotateLeft 2 ^^^ y.rotateLeft 1)) 99 = bv (spr y) := xor8 _ 0x63#8
  generalize y ^^^ y.rotateLeft 4 ^^^ y.rotateLeft 3 ^^^ y.rotateLeft 2 ^^^ y.rotateLeft 1 = y5 at *
  generalize y ^^^ y.rotateLeft 4 ^^^ y.rotateLeft 3 ^^^ y.rotateLeft 2 = y4 at *
  generalize y ^^^ y.rotateLeft 4 ^^^ y.rotateLeft 3 = y3 at *
  generalize y ^^^ y.rotateLeft 4 = y2 at *
  generalize y.rotateLeft 4 = r4 at *
  generalize y.rotateLeft 3 = r3 at *
  generalize y.rotateLeft 2 = r2 at *
  generalize y.rotateLeft 1 = r1 at *
  generalize spr y = sy at *
  go_enter Tryd.func46, Tryd.ntmps46
  go_wp2_with (fail)
  refine (c4.at _).mono ?_
  rintro e w4 ⟨rfl, hb4⟩
  go_wp2_with (fail)
  refine (c5.at _).mono ?_
  rintro e w5 ⟨rfl, hb5⟩
  go_wp2_with (fail)
  refine (c6.at _).mono ?_
  rintro e w6 ⟨rfl, hb6⟩
  go_wp2_with (fail)
  refine (c7.at _).mono ?_
  rintro e w7 ⟨rfl, hb7⟩
  go_wp2
  go_ret
  exact ⟨rfl, Below.after (Below.after (Below.after hb4 hb5) hb6) hb7⟩

/-- Sub and Back of every byte, in a row. -/
def sbl : List B := pt (fun x => sb (BitVec.ofNat 8 x)) 256 256
def bkl : List B := pt (fun x => bk (BitVec.ofNat 8 x)) 256 256
theorem sbl_len : sbl.length = 256 := pt_len _ _ _
theorem bkl_len : bkl.length = 256 := pt_len _ _ _
theorem sbl_get (x : B) : sbl.getD x.toNat 0#8 = sb x := by
  rw [sbl, pt_get _ _ _ x.isLt x.isLt, BitVec.ofNat_toNat, BitVec.setWidth_eq]
theorem bkl_get (x : B) : bkl.getD x.toNat 0#8 = bk x := by
  rw [bkl, pt_get _ _ _ x.isLt x.isLt, BitVec.ofNat_toNat, BitVec.setWidth_eq]
theorem of_bv (k : Nat) (h : k < 256) : bv (BitVec.ofNat 8 k) = (k : Int) := by
  unfold bv; rw [BitVec.toNat_ofNat]; omega
set_option maxRecDepth 100000 in
set_option maxHeartbeats 4000000 in
theorem a_boxes : Gives 31 #[] (.tuple #[.agg (irow .u8 (bl (sbl))), .agg (irow .u8 (bl (bkl)))]) := by
  intro w
  have hz : ∀ W : World, (Instr.alloc 74 true (.tuple #[])).run Tryd.prog W = .ok (.pointer (some ⟨W.heap.size, 0, none⟩)) (W.alloc (.cells (irow .u8 (bl (pt (fun x => sb (BitVec.ofNat 8 x)) 256 0))) 74)) := by rw [← zr_pt]; exact z256
  have R0 := hp2_0 w (.cells (irow .u8 (bl (pt (fun x => sb (BitVec.ofNat 8 x)) 256 0))) 74) (.cells (irow .u8 (bl (pt (fun x => sb (BitVec.ofNat 8 x)) 256 0))) 74)
  have R1 := hp2_1 w (.cells (irow .u8 (bl (pt (fun x => sb (BitVec.ofNat 8 x)) 256 0))) 74) (.cells (irow .u8 (bl (pt (fun x => sb (BitVec.ofNat 8 x)) 256 0))) 74)
  have HW : Below w.heap.size w ((w.alloc (.cells (irow .u8 (bl (pt (fun x => sb (BitVec.ofNat 8 x)) 256 0))) 74)).alloc (.cells (irow .u8 (bl (pt (fun x => sb (BitVec.ofNat 8 x)) 256 0))) 74)) := (((Below.refl _ _).alloc (Nat.le_refl _) _).alloc (by simp) _)

  have hin := a_inverses
  go_enter Tryd.func31, Tryd.ntmps31
  go_wp2_with (first | (refine wpList_alloc rfl 74 rfl (irow .u8 (bl (pt (fun x => sb (BitVec.ofNat 8 x)) 256 0))) hz ?_) | fail)
  clear hz
  generalize ((w.alloc (.cells (irow .u8 (bl (pt (fun x => sb (BitVec.ofNat 8 x)) 256 0))) 74)).alloc (.cells (irow .u8 (bl (pt (fun x => sb (BitVec.ofNat 8 x)) 256 0))) 74)) = w0 at *
  refine (hin.at _).mono ?_
  rintro e_ w1 ⟨rfl, hb⟩
  replace R0 := keep hb R0
  replace R1 := keep hb R1
  replace HW := Below.after HW hb
  clear hb hin
  go_wp2_with (fail)
  go_loopw [6] (fun i wr => ∃ k : Nat, k ≤ 256 ∧ i = .int .i64 k ∧ wr.heap[w.heap.size]? = some (.cells (irow .u8 (bl (pt (fun x => sb (BitVec.ofNat 8 x)) 256 k))) 74 (0, 0)) ∧ wr.heap[w.heap.size + 1]? = some (.cells (irow .u8 (bl (bo k))) 74 (0, 0)) ∧ Below w.heap.size w wr) (fun i _ => 256 - (intOf i).toNat)
  case atStart => exact ⟨0, by omega, rfl, R0, by rw [pt_zero] at R1; exact R1, HW⟩
  case round =>
    clear R0 R1 HW
    obtain ⟨k, hk, rfl, r0, r1, hw⟩ := hrel
    by_cases hlt : k < 256
    · have hd : decide ((k : Int) < 256) = true := by simp; omega
      have hix := index256 (pt iv 256 256) (pt_len _ _ _) k hlt wr
      rw [pt_get iv 256 256 (by omega) (by omega)] at hix
      have cs := a_spread5 (iv k)
      rw [← sb_spr k hlt] at cs
      have hset := hide (pt_set (fun x => sb (BitVec.ofNat 8 x)) 256 k hlt)
      have e6 := bv_nat (sb (BitVec.ofNat 8 k))
      have b6 := bnd (sb (BitVec.ofNat 8 k))
      have ek := of_bv k hlt
      go_wp2_with (fail)
      refine (cs.at _).mono ?_
      rintro e_ w1 ⟨rfl, hb⟩
      replace r0 := keep hb r0
      replace r1 := keep hb r1
      replace hw := Below.after hw hb
      clear hb cs hix
      have c0 := brow_cell r0 (j := k) (by rw [pt_len]; exact hlt)
      have hf0 := row_frozen r0 k
      have hn1 := heap_other (j := k) (v := .int .u8 (bv (sb (BitVec.ofNat 8 k)))) r1 (show w.heap.size + 1 ≠ w.heap.size by omega)
      have c1 := brow_cell hn1 (j := (sb (BitVec.ofNat 8 k)).toNat) (by rw [bo, fil_len]; exact (sb (BitVec.ofNat 8 k)).isLt)
      have hf1 := row_frozen hn1 (sb (BitVec.ofNat 8 k)).toNat
      replace hn1 := hide hn1
      go_wp2
      refine ⟨⟨k + 1, by omega, by go_num, heap_other (by rw [← hset.out]; exact brow_set r0 k _) (by omega), ?_, (hw.setCell (Nat.le_refl _) _).setCell (show w.heap.size ≤ w.heap.size + 1 by omega) _⟩, by simp [intOf]; omega⟩
      have := brow_set hn1.out (sb (BitVec.ofNat 8 k)).toNat (BitVec.ofNat 8 k)
      rw [ek] at this
      exact this
    · obtain rfl : k = 256 := by omega
      have hd : decide ((256 : Int) < 256) = false := by decide
      rw [bo_all] at r1
      replace r0 : wr.heap[w.heap.size]? = some (.cells (irow .u8 (bl (sbl))) 74 (0, 0)) := r0
      replace r1 : wr.heap[w.heap.size + 1]? = some (.cells (irow .u8 (bl (bkl))) 74 (0, 0)) := r1
      have hi0 := info256 sbl sbl_len
      have hi1 := info256 bkl bkl_len
      clear hk hlt
      go_wp2_with (fail)
      have hbd : Below wr.heap.size wr wr.drew := below_drN (Below.refl _ _) 1
      replace r0 := keep hbd r0
      replace r1 := keep hbd r1
      replace hw := Below.after hw hbd
      clear hbd
      refine wp_region_noPanic ?_
      refine wp_region_any (by kernel_rfl) ?_
      change wpAny _ _ _ _ _ _ _ (World.drew _)
      generalize wr.drew = wd at *
      refine wpAny_ready (rs := [0, 1]) (fuel := 3) (by kernel_rfl) (by simp) (AllReady.cons rfl (fun K' hK => ?_) (AllReady.cons rfl (fun K' hK => ?_) AllReady.nil))
      · rw [if_pos (by kernel_rfl)]
        simp only [List.getElem_toArray, List.getElem_cons_zero]
        refine wp_load_row 74 _ rfl (w.heap.size) rfl 74 (irow .u8 (bl (sbl))) (0, 0) _ (r0) Tryd.underlying74 rfl hi0 (hK _ _ ?_)
        simp only [Act.put, List.setIfInBounds_toArray, List.set_cons_succ, List.set_cons_zero]
        clear hK
        refine wpAny_ready (rs := [1, 2]) (fuel := 2) (by kernel_rfl) (by simp) (AllReady.cons rfl (fun K' hK => ?_) (AllReady.cons rfl (fun K' hK => ?_) AllReady.nil))
        · rw [if_pos (by kernel_rfl)]
          simp only [List.getElem_toArray, List.getElem_cons_succ, List.getElem_cons_zero]
          refine wp_load_row 74 _ rfl (w.heap.size + 1) rfl 74 (irow .u8 (bl (bkl))) (0, 0) _ (r1) Tryd.underlying74 rfl hi1 (hK _ _ ?_)
          simp only [Act.put, List.setIfInBounds_toArray, List.set_cons_succ, List.set_cons_zero]
          clear hK
          refine wpAny_ready (rs := [2]) (fuel := 1) (by kernel_rfl) (by simp) (AllReady.cons rfl (fun K' hK => ?_) AllReady.nil)
          rw [if_pos (by kernel_rfl)]
          simp only [List.getElem_toArray, List.getElem_cons_succ, List.getElem_cons_zero]
          refine wp_store_row 74 _ _ rfl (w.heap.size) (irow .u8 (bl (sbl))) rfl rfl 74 _ r0 hi0 rfl (irow_one _ _) (hK _ _ ?_)
          simp only [Act.put]
          clear hK
          replace r1 := (setRow_other wd (w.heap.size) (w.heap.size + 1) (irow .u8 (bl (sbl))) (by omega)).trans r1
          replace r0 := setRow_heap wd (w.heap.size) _ (irow .u8 (bl (sbl))) _ _ r0
          replace hw := below_setRow hw (show w.heap.size ≤ w.heap.size by omega) (irow .u8 (bl (sbl)))
          generalize wd.setRow (w.heap.size) (irow .u8 (bl (sbl))) = q1 at *
          refine wpAny_ready (rs := [3]) (fuel := 0) (by kernel_rfl) (by simp) (AllReady.cons rfl (fun K' hK => ?_) AllReady.nil)
          rw [if_pos (by kernel_rfl)]
          simp only [List.getElem_toArray, List.getElem_cons_succ, List.getElem_cons_zero]
          refine wp_store_row 74 _ _ rfl (w.heap.size + 1) (irow .u8 (bl (bkl))) rfl rfl 74 _ r1 hi1 rfl (irow_one _ _) (hK _ _ ?_)
          simp only [Act.put]
          clear hK
          replace r0 := (setRow_other q1 (w.heap.size + 1) (w.heap.size) (irow .u8 (bl (bkl))) (by omega)).trans r0
          replace r1 := setRow_heap q1 (w.heap.size + 1) _ (irow .u8 (bl (bkl))) _ _ r1
          replace hw := below_setRow hw (show w.heap.size ≤ w.heap.size + 1 by omega) (irow .u8 (bl (bkl)))
          generalize q1.setRow (w.heap.size + 1) (irow .u8 (bl (bkl))) = q2 at *
          refine wpAny_done (by kernel_rfl) ?_ _
          refine NoPanic.normal ?_
          go_wp2_with (fail)
          exact bodyPost_ret (v := .tuple #[.agg (irow .u8 (bl (sbl))), .agg (irow .u8 (bl (bkl)))]) (results_rows2 Tryd.results31 _ _ (w.heap.size) (w.heap.size + 1) _ _ _ _ _ _ _ _ rfl r0 rfl r1 Tryd.underlying74 rfl hi0 Tryd.underlying74 rfl hi1) rfl ⟨rfl, hw⟩
        · rw [if_pos (by kernel_rfl)]
          simp only [List.getElem_toArray, List.getElem_cons_succ, List.getElem_cons_zero]
          refine wp_store_row 74 _ _ rfl (w.heap.size) (irow .u8 (bl (sbl))) rfl rfl 74 _ r0 hi0 rfl (irow_one _ _) (hK _ _ ?_)
          simp only [Act.put]
          clear hK
          replace r1 := (setRow_other wd (w.heap.size) (w.heap.size + 1) (irow .u8 (bl (sbl))) (by omega)).trans r1
          replace r0 := setRow_heap wd (w.heap.size) _ (irow .u8 (bl (sbl))) _ _ r0
          replace hw := below_setRow hw (show w.heap.size ≤ w.heap.size by omega) (irow .u8 (bl (sbl)))
          generalize wd.setRow (w.heap.size) (irow .u8 (bl (sbl))) = q3 at *
          refine wpAny_ready (rs := [1]) (fuel := 1) (by kernel_rfl) (by simp) (AllReady.cons rfl (fun K' hK => ?_) AllReady.nil)
          rw [if_pos (by kernel_rfl)]
          simp only [List.getElem_toArray, List.getElem_cons_succ, List.getElem_cons_zero]
          refine wp_load_row 74 _ rfl (w.heap.size + 1) rfl 74 (irow .u8 (bl (bkl))) (0, 0) _ (r1) Tryd.underlying74 rfl hi1 (hK _ _ ?_)
          simp only [Act.put, List.setIfInBounds_toArray, List.set_cons_succ, List.set_cons_zero]
          clear hK
          refine wpAny_ready (rs := [3]) (fuel := 0) (by kernel_rfl) (by simp) (AllReady.cons rfl (fun K' hK => ?_) AllReady.nil)
          rw [if_pos (by kernel_rfl)]
          simp only [List.getElem_toArray, List.getElem_cons_succ, List.getElem_cons_zero]
          refine wp_store_row 74 _ _ rfl (w.heap.size + 1) (irow .u8 (bl (bkl))) rfl rfl 74 _ r1 hi1 rfl (irow_one _ _) (hK _ _ ?_)
          simp only [Act.put]
          clear hK
          replace r0 := (setRow_other q3 (w.heap.size + 1) (w.heap.size) (irow .u8 (bl (bkl))) (by omega)).trans r0
          replace r1 := setRow_heap q3 (w.heap.size + 1) _ (irow .u8 (bl (bkl))) _ _ r1
          replace hw := below_setRow hw (show w.heap.size ≤ w.heap.size + 1 by omega) (irow .u8 (bl (bkl)))
          generalize q3.setRow (w.heap.size + 1) (irow .u8 (bl (bkl))) = q4 at *
          refine wpAny_done (by kernel_rfl) ?_ _
          refine NoPanic.normal ?_
          go_wp2_with (fail)
          exact bodyPost_ret (v := .tuple #[.agg (irow .u8 (bl (sbl))), .agg (irow .u8 (bl (bkl)))]) (results_rows2 Tryd.results31 _ _ (w.heap.size) (w.heap.size + 1) _ _ _ _ _ _ _ _ rfl r0 rfl r1 Tryd.underlying74 rfl hi0 Tryd.underlying74 rfl hi1) rfl ⟨rfl, hw⟩
      · rw [if_pos (by kernel_rfl)]
        simp only [List.getElem_toArray, List.getElem_cons_succ, List.getElem_cons_zero]
        refine wp_load_row 74 _ rfl (w.heap.size + 1) rfl 74 (irow .u8 (bl (bkl))) (0, 0) _ (r1) Tryd.underlying74 rfl hi1 (hK _ _ ?_)
        simp only [Act.put, List.setIfInBounds_toArray, List.set_cons_succ, List.set_cons_zero]
        clear hK
        refine wpAny_ready (rs := [0]) (fuel := 2) (by kernel_rfl) (by simp) (AllReady.cons rfl (fun K' hK => ?_) AllReady.nil)
        rw [if_pos (by kernel_rfl)]
        simp only [List.getElem_toArray, List.getElem_cons_zero]
        refine wp_load_row 74 _ rfl (w.heap.size) rfl 74 (irow .u8 (bl (sbl))) (0, 0) _ (r0) Tryd.underlying74 rfl hi0 (hK _ _ ?_)
        simp only [Act.put, List.setIfInBounds_toArray, List.set_cons_succ, List.set_cons_zero]
        clear hK
        refine wpAny_ready (rs := [2]) (fuel := 1) (by kernel_rfl) (by simp) (AllReady.cons rfl (fun K' hK => ?_) AllReady.nil)
        rw [if_pos (by kernel_rfl)]
        simp only [List.getElem_toArray, List.getElem_cons_succ, List.getElem_cons_zero]
        refine wp_store_row 74 _ _ rfl (w.heap.size) (irow .u8 (bl (sbl))) rfl rfl 74 _ r0 hi0 rfl (irow_one _ _) (hK _ _ ?_)
        simp only [Act.put]
        clear hK
        replace r1 := (setRow_other wd (w.heap.size) (w.heap.size + 1) (irow .u8 (bl (sbl))) (by omega)).trans r1
        replace r0 := setRow_heap wd (w.heap.size) _ (irow .u8 (bl (sbl))) _ _ r0
        replace hw := below_setRow hw (show w.heap.size ≤ w.heap.size by omega) (irow .u8 (bl (sbl)))
        generalize wd.setRow (w.heap.size) (irow .u8 (bl (sbl))) = q5 at *
        refine wpAny_ready (rs := [3]) (fuel := 0) (by kernel_rfl) (by simp) (AllReady.cons rfl (fun K' hK => ?_) AllReady.nil)
        rw [if_pos (by kernel_rfl)]
        simp only [List.getElem_toArray, List.getElem_cons_succ, List.getElem_cons_zero]
        refine wp_store_row 74 _ _ rfl (w.heap.size + 1) (irow .u8 (bl (bkl))) rfl rfl 74 _ r1 hi1 rfl (irow_one _ _) (hK _ _ ?_)
        simp only [Act.put]
        clear hK
        replace r0 := (setRow_other q5 (w.heap.size + 1) (w.heap.size) (irow .u8 (bl (bkl))) (by omega)).trans r0
        replace r1 := setRow_heap q5 (w.heap.size + 1) _ (irow .u8 (bl (bkl))) _ _ r1
        replace hw := below_setRow hw (show w.heap.size ≤ w.heap.size + 1 by omega) (irow .u8 (bl (bkl)))
        generalize q5.setRow (w.heap.size + 1) (irow .u8 (bl (bkl))) = q6 at *
        refine wpAny_done (by kernel_rfl) ?_ _
        refine NoPanic.normal ?_
        go_wp2_with (fail)
        exact bodyPost_ret (v := .tuple #[.agg (irow .u8 (bl (sbl))), .agg (irow .u8 (bl (bkl)))]) (results_rows2 Tryd.results31 _ _ (w.heap.size) (w.heap.size + 1) _ _ _ _ _ _ _ _ rfl r0 rfl r1 Tryd.underlying74 rfl hi0 Tryd.underlying74 rfl hi1) rfl ⟨rfl, hw⟩


end Go.Proofs.YtamieopjigjfiabDoor


namespace Go.Proofs.YtamieopjigjfiabDoor
set_option maxRecDepth 100000
open Go Go.RowKit Go.Sort
/-! Four bytes as a word. -/
def wd (a b c d : B) : BitVec 32 := (a ++ b ++ c ++ d : BitVec (8 + 8 + 8 + 8))
def wv (x : BitVec 32) : Int := (x.toNat : Int)
theorem wd_nat (a b c d : B) : (wd a b c d).toNat = ((a.toNat * 256 + b.toNat) * 256 + c.toNat) * 256 + d.toNat := by
  have h1 := a.isLt; have h2 := b.isLt; have h3 := c.isLt; have h4 := d.isLt
  unfold wd
  simp only [BitVec.toNat_append]
  rw [← Nat.shiftLeft_add_eq_or_of_lt (by omega), ← Nat.shiftLeft_add_eq_or_of_lt (by omega), ← Nat.shiftLeft_add_eq_or_of_lt (by omega)]
  simp only [Nat.shiftLeft_eq]
theorem wv_wd (a b c d : B) : wv (wd a b c d) = ((bv a * 256 + bv b) * 256 + bv c) * 256 + bv d := by
  unfold wv bv
  rw [wd_nat]; simp
theorem wnd (x : BitVec 32) : 0 ≤ wv x ∧ wv x < 4294967296 := by
  have := x.isLt
  unfold wv
  omega
theorem xor32 (a b : BitVec 32) : bits .xor .u32 (wv a) (wv b) = wv (a ^^^ b) := by
  show IntKind.u32.wrap ((BitVec.ofInt 32 a.toNat ^^^ BitVec.ofInt 32 b.toNat).toNat : Int) = _
  rw [ofInt_toNat, ofInt_toNat, wrap32]; rfl
theorem or32 (a b : BitVec 32) : bits .or .u32 (wv a) (wv b) = wv (a ||| b) := by
  show IntKind.u32.wrap ((BitVec.ofInt 32 a.toNat ||| BitVec.ofInt 32 b.toNat).toNat : Int) = _
  rw [ofInt_toNat, ofInt_toNat, wrap32]; rfl
theorem and32 (a b : BitVec 32) : bits .and .u32 (wv a) (wv b) = wv (a &&& b) := by
  show IntKind.u32.wrap ((BitVec.ofInt 32 a.toNat &&& BitVec.ofInt 32 b.toNat).toNat : Int) = _
  rw [ofInt_toNat, ofInt_toNat, wrap32]; rfl
theorem wv_inj {a b : BitVec 32} (h : wv a = wv b) : a = b := by
  apply BitVec.eq_of_toNat_eq; unfold wv at h; omega
theorem wd_xor (a b c d a' b' c' d' : B) : wd a b c d ^^^ wd a' b' c' d' = wd (a ^^^ a') (b ^^^ b') (c ^^^ c') (d ^^^ d') := by
  unfold wd
  rw [BitVec.xor_append, BitVec.xor_append, BitVec.xor_append]
theorem wd_and (a b c d a' b' c' d' : B) : wd a b c d &&& wd a' b' c' d' = wd (a &&& a') (b &&& b') (c &&& c') (d &&& d') := by
  unfold wd
  rw [BitVec.and_append, BitVec.and_append, BitVec.and_append]
theorem wd_or (a b c d a' b' c' d' : B) : wd a b c d ||| wd a' b' c' d' = wd (a ||| a') (b ||| b') (c ||| c') (d ||| d') := by
  unfold wd
  rw [BitVec.or_append, BitVec.or_append, BitVec.or_append]
theorem bv0 : bv 0#8 = 0 := rfl
/-- Put together: byte by byte. -/
theorem wd_hi (a : B) : bv a * 16777216 = wv (wd a 0#8 0#8 0#8) := by rw [wv_wd, bv0]; omega
theorem wd_b (a : B) : bv a * 65536 = wv (wd 0#8 a 0#8 0#8) := by rw [wv_wd, bv0]; omega
theorem wd_c (a : B) : bv a * 256 = wv (wd 0#8 0#8 a 0#8) := by rw [wv_wd, bv0]; omega
theorem wd_lo (a : B) : bv a = wv (wd 0#8 0#8 0#8 a) := by rw [wv_wd, bv0]; omega
theorem wd_shl (a b c d : B) : wv (wd a b c d) * 256 % 4294967296 = wv (wd b c d 0#8) := by
  have h1 := bnd a; have h2 := bnd b; have h3 := bnd c; have h4 := bnd d
  rw [wv_wd, wv_wd, bv0]; omega
/-- Taken apart. -/
theorem wd_a_of (a b c d : B) : wv (wd a b c d) / 16777216 = bv a := by
  have h1 := bnd a; have h2 := bnd b; have h3 := bnd c; have h4 := bnd d
  rw [wv_wd]; omega
theorem wd_b_of (a b c d : B) : wv (wd a b c d) / 65536 % 256 = bv b := by
  have h1 := bnd a; have h2 := bnd b; have h3 := bnd c; have h4 := bnd d
  rw [wv_wd]; omega
theorem wd_c_of (a b c d : B) : wv (wd a b c d) / 256 % 256 = bv c := by
  have h1 := bnd a; have h2 := bnd b; have h3 := bnd c; have h4 := bnd d
  rw [wv_wd]; omega
theorem wd_d_of (a b c d : B) : wv (wd a b c d) % 256 = bv d := by
  have h1 := bnd a; have h2 := bnd b; have h3 := bnd c; have h4 := bnd d
  rw [wv_wd]; omega
/-- Every word is four bytes. -/
def w0 (x : BitVec 32) : B := BitVec.ofNat 8 (x.toNat / 16777216)
def w1 (x : BitVec 32) : B := BitVec.ofNat 8 (x.toNat / 65536)
def w2 (x : BitVec 32) : B := BitVec.ofNat 8 (x.toNat / 256)
def w3 (x : BitVec 32) : B := BitVec.ofNat 8 x.toNat
theorem wd_all (x : BitVec 32) : x = wd (w0 x) (w1 x) (w2 x) (w3 x) := by
  have := x.isLt
  apply BitVec.eq_of_toNat_eq
  rw [wd_nat]
  simp only [w0, w1, w2, w3, BitVec.toNat_ofNat]
  omega
theorem wd_eq {a b c d a' b' c' d' : B} (h : wd a b c d = wd a' b' c' d') : a = a' ∧ b = b' ∧ c = c' ∧ d = d' := by
  have e := congrArg BitVec.toNat h
  rw [wd_nat, wd_nat] at e
  have h1 := a.isLt; have h2 := b.isLt; have h3 := c.isLt; have h4 := d.isLt
  have g1 := a'.isLt; have g2 := b'.isLt; have g3 := c'.isLt; have g4 := d'.isLt
  refine ⟨?_, ?_, ?_, ?_⟩ <;> apply BitVec.eq_of_toNat_eq <;> omega
/-- Turned to the left. -/
theorem or_add {x y : Nat} (i : Nat) (a : Nat) (hx : x = a * 2 ^ i) (hy : y < 2 ^ i) : x ||| y = x + y := by
  subst hx
  rw [← Nat.shiftLeft_eq, Nat.shiftLeft_add_eq_or_of_lt hy]
theorem wd_left1 (a b c d : B) : bits .or .u32 (wv (wd a b c d) * 256 % 4294967296) (wv (wd a b c d) / 16777216) = wv (wd b c d a) := by
  rw [wd_shl, wd_a_of, wd_lo, or32, wd_or]; simp
theorem wd_shl2 (a b c d : B) : wv (wd a b c d) * 65536 % 4294967296 = wv (wd c d 0#8 0#8) := by
  have h1 := bnd a; have h2 := bnd b; have h3 := bnd c; have h4 := bnd d
  rw [wv_wd, wv_wd, bv0]; omega
theorem wd_shl3 (a b c d : B) : wv (wd a b c d) * 16777216 % 4294967296 = wv (wd d 0#8 0#8 0#8) := by
  have h1 := bnd a; have h2 := bnd b; have h3 := bnd c; have h4 := bnd d
  rw [wv_wd, wv_wd, bv0]; omega
theorem wd_shr2 (a b c d : B) : wv (wd a b c d) / 65536 = wv (wd 0#8 0#8 a b) := by
  have h1 := bnd a; have h2 := bnd b; have h3 := bnd c; have h4 := bnd d
  rw [wv_wd, wv_wd, bv0]; omega
theorem wd_shr3 (a b c d : B) : wv (wd a b c d) / 256 = wv (wd 0#8 a b c) := by
  have h1 := bnd a; have h2 := bnd b; have h3 := bnd c; have h4 := bnd d
  rw [wv_wd, wv_wd, bv0]; omega
theorem wd_left2 (a b c d : B) : bits .or .u32 (wv (wd a b c d) * 65536 % 4294967296) (wv (wd a b c d) / 65536) = wv (wd c d a b) := by
  rw [wd_shl2, wd_shr2, or32, wd_or]; simp
theorem wd_left3 (a b c d : B) : bits .or .u32 (wv (wd a b c d) * 16777216 % 4294967296) (wv (wd a b c d) / 256) = wv (wd d a b c) := by
  rw [wd_shl3, wd_shr3, or32, wd_or]; simp
/-- The doubles of four bytes at once. -/
theorem wd_shr7 (a b c d : B) : bits .and .u32 (wv (wd a b c d) / 128) 16843009 = wv (wd (a >>> 7) (b >>> 7) (c >>> 7) (d >>> 7)) := by
  have e : (16843009 : Int) = wv (wd 1#8 1#8 1#8 1#8) := by decide +kernel
  have e2 : wv (wd a b c d) / (128 : Int) = wv (wd (a >>> 7) ((a <<< 1) ||| (b >>> 7)) ((b <<< 1) ||| (c >>> 7)) ((c <<< 1) ||| (d >>> 7))) := by
    have h : ∀ a b : B, bv ((a <<< 1) ||| (b >>> 7)) = bv a % 128 * 2 + bv b / 128 := by
      intro a b
      unfold bv
      rw [BitVec.toNat_or, BitVec.toNat_shiftLeft, BitVec.toNat_ushiftRight]
      have h1 := a.isLt; have h2 := b.isLt
      rw [or_add 1 (a.toNat % 128) (by rw [Nat.shiftLeft_eq]; omega) (by rw [Nat.shiftRight_eq_div_pow]; omega), Nat.shiftLeft_eq, Nat.shiftRight_eq_div_pow]
      omega
    have h0 : bv (a >>> 7) = bv a / 128 := by
      unfold bv
      rw [BitVec.toNat_ushiftRight, Nat.shiftRight_eq_div_pow]; rfl
    have h1 := bnd a; have h2 := bnd b; have h3 := bnd c; have h4 := bnd d
    rw [wv_wd, wv_wd, h, h, h, h0]; omega
  have k : ∀ a b : B, ((a <<< 1) ||| (b >>> 7)) &&& 1#8 = b >>> 7 := by
    intro a b
    apply bv_inj.1
    have h1 := bnd a; have h2 := bnd b
    have q : ∀ x : B, bv (x &&& 1#8) = bv x % 2 := fun x => by
      unfold bv
      rw [BitVec.toNat_and, show BitVec.toNat 1#8 = 1 from rfl, Nat.and_one_is_mod]; rfl
    have h0 : bv (b >>> 7) = bv b / 128 := by
      unfold bv
      rw [BitVec.toNat_ushiftRight, Nat.shiftRight_eq_div_pow]; rfl
    have h : bv ((a <<< 1) ||| (b >>> 7)) = bv a % 128 * 2 + bv b / 128 := by
      unfold bv
      rw [BitVec.toNat_or, BitVec.toNat_shiftLeft, BitVec.toNat_ushiftRight]
      have h1 := a.isLt; have h2 := b.isLt
      rw [or_add 1 (a.toNat % 128) (by rw [Nat.shiftLeft_eq]; omega) (by rw [Nat.shiftRight_eq_div_pow]; omega), Nat.shiftLeft_eq, Nat.shiftRight_eq_div_pow]
      omega
    rw [q, h, h0]; omega
  have k0 : (a >>> 7) &&& 1#8 = a >>> 7 := (by decide +kernel : ∀ a : B, (a >>> 7) &&& 1#8 = a >>> 7) a
  rw [e, e2, and32, wd_and, k, k, k, k0]
theorem wd_and7f (a b c d : B) : bits .and .u32 (wv (wd a b c d)) 2139062143 = wv (wd (a &&& 0x7f#8) (b &&& 0x7f#8) (c &&& 0x7f#8) (d &&& 0x7f#8)) := by
  rw [show (2139062143 : Int) = wv (wd 0x7f#8 0x7f#8 0x7f#8 0x7f#8) by decide +kernel, and32, wd_and]
theorem wd_shl1 (a b c d : B) : wv (wd (a &&& 0x7f#8) (b &&& 0x7f#8) (c &&& 0x7f#8) (d &&& 0x7f#8)) * 2 % 4294967296 = wv (wd (a <<< 1) (b <<< 1) (c <<< 1) (d <<< 1)) := by
  have h : ∀ a : B, bv (a <<< 1) = bv (a &&& 0x7f#8) * 2 ∧ 0 ≤ bv (a &&& 0x7f#8) ∧ bv (a &&& 0x7f#8) < 128 := by decide +kernel
  have h1 := h a; have h2 := h b; have h3 := h c; have h4 := h d
  rw [wv_wd, wv_wd]; omega
theorem wd_mul (a b c d : B) : wv (wd (a >>> 7) (b >>> 7) (c >>> 7) (d >>> 7)) * 27 % 4294967296 = wv (wd ((a >>> 7) * 27#8) ((b >>> 7) * 27#8) ((c >>> 7) * 27#8) ((d >>> 7) * 27#8)) := by
  have h : ∀ a : B, bv ((a >>> 7) * 27#8) = bv (a >>> 7) * 27 ∧ 0 ≤ bv (a >>> 7) ∧ bv (a >>> 7) < 2 := by decide +kernel
  have h1 := h a; have h2 := h b; have h3 := h c; have h4 := h d
  rw [wv_wd, wv_wd]; omega
theorem wd_dbl (a b c d : B) : bits .xor .u32 (wv (wd (a <<< 1) (b <<< 1) (c <<< 1) (d <<< 1))) (wv (wd ((a >>> 7) * 27#8) ((b >>> 7) * 27#8) ((c >>> 7) * 27#8) ((d >>> 7) * 27#8))) = wv (wd (dbl a) (dbl b) (dbl c) (dbl d)) := by
  rw [xor32, wd_xor]; rfl
/-- Masks. -/
theorem wd_mask0 (a b c d : B) : bits .and .u32 (wv (wd a b c d)) 4278190080 = wv (wd a 0#8 0#8 0#8) := by
  rw [show (4278190080 : Int) = wv (wd 0xff#8 0#8 0#8 0#8) by decide +kernel, and32, wd_and, show (0xff#8 : B) = BitVec.allOnes 8 from rfl, BitVec.and_allOnes]; simp
theorem wd_mask1 (a b c d : B) : bits .and .u32 (wv (wd a b c d)) 16711680 = wv (wd 0#8 b 0#8 0#8) := by
  rw [show (16711680 : Int) = wv (wd 0#8 0xff#8 0#8 0#8) by decide +kernel, and32, wd_and, show (0xff#8 : B) = BitVec.allOnes 8 from rfl, BitVec.and_allOnes]; simp
theorem wd_mask2 (a b c d : B) : bits .and .u32 (wv (wd a b c d)) 65280 = wv (wd 0#8 0#8 c 0#8) := by
  rw [show (65280 : Int) = wv (wd 0#8 0#8 0xff#8 0#8) by decide +kernel, and32, wd_and, show (0xff#8 : B) = BitVec.allOnes 8 from rfl, BitVec.and_allOnes]; simp
theorem wd_mask3 (a b c d : B) : bits .and .u32 (wv (wd a b c d)) 255 = wv (wd 0#8 0#8 0#8 d) := by
  rw [show (255 : Int) = wv (wd 0#8 0#8 0#8 0xff#8) by decide +kernel, and32, wd_and, show (0xff#8 : B) = BitVec.allOnes 8 from rfl, BitVec.and_allOnes]; simp
end Go.Proofs.YtamieopjigjfiabDoor
