import Derived.Test.YtamieopjigjfiaaDoorProg
import Derived.WalkKit
import Derived.WalkSpells
import Derived.WalkLawsBesides
import Derived.Lib.QuietBelow
import Derived.BigQuiet
import Derived.Test.YtamieopjigjfiaaDoorS0
import Derived.Test.YtamieopjigjfiaaDoorS1
import Derived.OwnWalk
namespace Go.Proofs.YtamieopjigjfiaaDoor
set_option maxRecDepth 100000
open Go Go.RowKit Go.Sort
attribute [local go_sem] setCell_drewN alloc_drewN

theorem ix_b (a b c d : B) : bits .and .u32 (wv (wd a b c d) / 65536) 255 = bv b := by rw [wd_shr2, wd_mask3, ← wd_lo]
theorem ix_c (a b c d : B) : bits .and .u32 (wv (wd a b c d) / 256) 255 = bv c := by rw [wd_shr3, wd_mask3, ← wd_lo]
theorem ix_d (a b c d : B) : bits .and .u32 (wv (wd a b c d)) 255 = bv d := by rw [wd_mask3, ← wd_lo]
theorem or_ab (a b : B) : bits .or .u32 (bv a * 16777216) (bv b * 65536) = wv (wd a b 0#8 0#8) := by
  rw [wd_hi, wd_b, or32, wd_or]; simp
theorem or_abc (a b c : B) : bits .or .u32 (wv (wd a b 0#8 0#8)) (bv c * 256) = wv (wd a b c 0#8) := by
  rw [wd_c, or32, wd_or]; simp
theorem or_abcd (a b c d : B) : bits .or .u32 (wv (wd a b c 0#8)) (bv d) = wv (wd a b c d) := by
  rw [wd_lo, or32, wd_or]; simp
set_option maxRecDepth 100000 in
set_option maxHeartbeats 2000000 in
theorem a_through (t : B → B) (g off : Nat) (a b c d : B) (W : World) (ht : ∀ x : B, W.cell? ⟨g, off + x.toNat, none⟩ = some (.int .u8 (bv (t x)))) : Calls Tryd.prog 78 #[.int .u32 (wv (wd a b c d)), .pointer (some ⟨g, off, none⟩)] W fun e w' => e = .returned (.int .u32 (wv (wd (t a) (t b) (t c) (t d)))) ∧ Below W.heap.size W w' := by
  have hw : Below W.heap.size W W := Below.refl _ _
  have c0 := ht a
  have c1 := ht b
  have c2 := ht c
  have c3 := ht d
  clear ht
  have i0 := wd_a_of a b c d
  have i1 := ix_b a b c d
  have i2 := ix_c a b c d
  have i3 := ix_d a b c d
  have o1 := or_ab (t a) (t b)
  have o2 := or_abc (t a) (t b) (t c)
  have o3 := or_abcd (t a) (t b) (t c) (t d)
  have n0 := bv_nat a
  have n1 := bv_nat b
  have n2 := bv_nat c
  have n3 := bv_nat d
  have b0 := bnd a
  have b1 := bnd b
  have b2 := bnd c
  have b3 := bnd d
  have t0 := bnd (t a)
  have t1 := bnd (t b)
  have t2 := bnd (t c)
  have t3 := bnd (t d)
  have bw := wnd (wd a b c d)
  generalize t a = ta at *
  generalize t b = tb at *
  generalize t c = tc at *
  generalize t d = td at *
  go_enter Tryd.func78, Tryd.ntmps78
  go_wp2_with (fail)
  have k0 : ∀ p : Regrown, (grow (redrawn W p.d) p.os).cell? ⟨g, off + a.toNat, none⟩ = some (.int .u8 (bv ta)) := fun p => cell_regrown (c0) p.d p.os
  have k1 : ∀ p : Regrown, (grow (redrawn W p.d) p.os).cell? ⟨g, off + b.toNat, none⟩ = some (.int .u8 (bv tb)) := fun p => cell_regrown (c1) p.d p.os
  have k2 : ∀ p : Regrown, (grow (redrawn W p.d) p.os).cell? ⟨g, off + c.toNat, none⟩ = some (.int .u8 (bv tc)) := fun p => cell_regrown (c2) p.d p.os
  have k3 : ∀ p : Regrown, (grow (redrawn W p.d) p.os).cell? ⟨g, off + d.toNat, none⟩ = some (.int .u8 (bv td)) := fun p => cell_regrown (c3) p.d p.os
  refine wp_region_quiet_below (by kernel_rfl) (by kernel_rfl) ?_
  go_big_quiet_step (fail)
  go_big_quiet_step (fail)
  go_big_quiet_step (fail)
  go_big_quiet_step (fail)
  go_big_quiet_step (fail)
  go_big_quiet_step (fail)
  go_big_quiet_step (fail)
  go_big_quiet_step (fail)
  go_big_quiet_step (fail)
  go_big_quiet_step (fail)
  go_big_quiet_step (fail)
  go_big_quiet_step (fail)
  go_big_quiet_step (fail)
  go_big_quiet_step (fail)
  go_big_quiet_step (fail)
  go_big_quiet_step (fail)
  go_big_quiet_step (fail)
  go_big_quiet_step (fail)
  go_big_quiet_step (fail)
  go_big_quiet_step (fail)
  go_big_quiet_step (fail)
  go_big_quiet_step (fail)
  go_big_quiet_step (fail)
  go_big_quiet_step (fail)
  go_big_quiet_step (fail)
  go_big_quiet_step (fail)
  go_big_quiet_step (fail)
  go_big_quiet_step (fail)
  go_big_quiet_step (fail)
  go_big_quiet_step (fail)
  go_big_quiet_step (fail)
  go_big_quiet_step (fail)
  go_big_quiet_step (fail)
  go_big_quiet_step (fail)
  go_big_quiet_step (fail)
  go_big_quiet_step (fail)
  go_big_quiet_step (fail)
  refine wpQuiet_nil ?_
  rintro _ ⟨p, rfl⟩
  have hb := below_regrown W p.d p.os
  generalize grow (redrawn W p.d) p.os = w1 at *
  clear k0 k1 k2 k3
  replace hw := Below.after hw hb
  clear hb

  go_wp2
  go_ret
  exact ⟨rfl, hw⟩

theorem pick2 (a b : B) : bits .or .u32 (wv (wd a 0#8 0#8 0#8)) (wv (wd 0#8 b 0#8 0#8)) = wv (wd a b 0#8 0#8) := by
  rw [or32, wd_or]; simp
theorem pick3 (a b c : B) : bits .or .u32 (wv (wd a b 0#8 0#8)) (wv (wd 0#8 0#8 c 0#8)) = wv (wd a b c 0#8) := by
  rw [or32, wd_or]; simp
theorem pick4 (a b c d : B) : bits .or .u32 (wv (wd a b c 0#8)) (wv (wd 0#8 0#8 0#8 d)) = wv (wd a b c d) := by
  rw [or32, wd_or]; simp
set_option maxHeartbeats 2000000 in
theorem a_picked (a0 b0 c0 d0 a1 b1 c1 d1 a2 b2 c2 d2 a3 b3 c3 d3 : B) : Gives 80 #[.agg #[.int .u32 (wv (wd a0 b0 c0 d0)), .int .u32 (wv (wd a1 b1 c1 d1)), .int .u32 (wv (wd a2 b2 c2 d2)), .int .u32 (wv (wd a3 b3 c3 d3))]] (.int .u32 (wv (wd a0 b1 c2 d3))) := by
  intro w
  have e0 := wd_mask0 a0 b0 c0 d0
  have e1 := wd_mask1 a1 b1 c1 d1
  have e2 := wd_mask2 a2 b2 c2 d2
  have e3 := wd_mask3 a3 b3 c3 d3
  have p2 := pick2 a0 b1
  have p3 := pick3 a0 b1 c2
  have p4 := pick4 a0 b1 c2 d3
  go_enter Tryd.func80, Tryd.ntmps80
  go_wp2
  go_ret
  exact ⟨rfl, (Below.refl _ _).alloc (Nat.le_refl _) _⟩

set_option maxHeartbeats 4000000 in
theorem a_turned (x0 x1 x2 x3 : Int) (k : Nat) (hk : k < 4) : Gives 81 #[.agg #[.int .u32 x0, .int .u32 x1, .int .u32 x2, .int .u32 x3], .int .i64 (k : Int)] (.agg #[.int .u32 ([x0, x1, x2, x3].getD ((0 + k) % 4) 0), .int .u32 ([x0, x1, x2, x3].getD ((1 + k) % 4) 0), .int .u32 ([x0, x1, x2, x3].getD ((2 + k) % 4) 0), .int .u32 ([x0, x1, x2, x3].getD ((3 + k) % 4) 0)]) := by
  intro w
  rcases (show k = 0 ∨ k = 1 ∨ k = 2 ∨ k = 3 by omega) with rfl | rfl | rfl | rfl
  · go_enter Tryd.func81, Tryd.ntmps81
    go_wp2
    refine wp_loop_rounds 5 ?_
    rw [rounds_succ]; go_wp2
    rw [rounds_succ]; go_wp2
    rw [rounds_succ]; go_wp2
    rw [rounds_succ]; go_wp2
    rw [rounds_succ]; go_wp2
    exact bodyPost_ret (v := .agg #[.int .u32 x0, .int .u32 x1, .int .u32 x2, .int .u32 x3]) (results_cell_row Tryd.results81 _ _ (w.heap.size + 1) _ _ _ _ rfl (hp3_1 w (.cells #[.int .u32 x0, .int .u32 x1, .int .u32 x2, .int .u32 x3] 80) (.cells #[.int .u32 x0, .int .u32 x1, .int .u32 x2, .int .u32 x3] 80) (.cells #[.int .u32 x0, .int .u32 x1, .int .u32 x2, .int .u32 x3] 80)) Tryd.underlying80 rfl (by kernel_rfl)) rfl ⟨rfl, (((Below.refl _ _).alloc (Nat.le_refl _) _).alloc (by simp) _).alloc (by simp; omega) _⟩
  · go_enter Tryd.func81, Tryd.ntmps81
    go_wp2
    refine wp_loop_rounds 5 ?_
    rw [rounds_succ]; go_wp2
    rw [rounds_succ]; go_wp2
    rw [rounds_succ]; go_wp2
    rw [rounds_succ]; go_wp2
    rw [rounds_succ]; go_wp2
    exact bodyPost_ret (v := .agg #[.int .u32 x1, .int .u32 x2, .int .u32 x3, .int .u32 x0]) (results_cell_row Tryd.results81 _ _ (w.heap.size + 1) _ _ _ _ rfl (hp3_1 w (.cells #[.int .u32 x0, .int .u32 x1, .int .u32 x2, .int .u32 x3] 80) (.cells #[.int .u32 x1, .int .u32 x2, .int .u32 x3, .int .u32 x0] 80) (.cells #[.int .u32 x1, .int .u32 x2, .int .u32 x3, .int .u32 x0] 80)) Tryd.underlying80 rfl (by kernel_rfl)) rfl ⟨rfl, (((Below.refl _ _).alloc (Nat.le_refl _) _).alloc (by simp) _).alloc (by simp; omega) _⟩
  · go_enter Tryd.func81, Tryd.ntmps81
    go_wp2
    refine wp_loop_rounds 5 ?_
    rw [rounds_succ]; go_wp2
    rw [rounds_succ]; go_wp2
    rw [rounds_succ]; go_wp2
    rw [rounds_succ]; go_wp2
    rw [rounds_succ]; go_wp2
    exact bodyPost_ret (v := .agg #[.int .u32 x2, .int .u32 x3, .int .u32 x0, .int .u32 x1]) (results_cell_row Tryd.results81 _ _ (w.heap.size + 1) _ _ _ _ rfl (hp3_1 w (.cells #[.int .u32 x0, .int .u32 x1, .int .u32 x2, .int .u32 x3] 80) (.cells #[.int .u32 x2, .int .u32 x3, .int .u32 x0, .int .u32 x1] 80) (.cells #[.int .u32 x2, .int .u32 x3, .int .u32 x0, .int .u32 x1] 80)) Tryd.underlying80 rfl (by kernel_rfl)) rfl ⟨rfl, (((Below.refl _ _).alloc (Nat.le_refl _) _).alloc (by simp) _).alloc (by simp; omega) _⟩
  · go_enter Tryd.func81, Tryd.ntmps81
    go_wp2
    refine wp_loop_rounds 5 ?_
    rw [rounds_succ]; go_wp2
    rw [rounds_succ]; go_wp2
    rw [rounds_succ]; go_wp2
    rw [rounds_succ]; go_wp2
    rw [rounds_succ]; go_wp2
    exact bodyPost_ret (v := .agg #[.int .u32 x3, .int .u32 x0, .int .u32 x1, .int .u32 x2]) (results_cell_row Tryd.results81 _ _ (w.heap.size + 1) _ _ _ _ rfl (hp3_1 w (.cells #[.int .u32 x0, .int .u32 x1, .int .u32 x2, .int .u32 x3] 80) (.cells #[.int .u32 x3, .int .u32 x0, .int .u32 x1, .int .u32 x2] 80) (.cells #[.int .u32 x3, .int .u32 x0, .int .u32 x1, .int .u32 x2] 80)) Tryd.underlying80 rfl (by kernel_rfl)) rfl ⟨rfl, (((Below.refl _ _).alloc (Nat.le_refl _) _).alloc (by simp) _).alloc (by simp; omega) _⟩

end Go.Proofs.YtamieopjigjfiaaDoor


namespace Go.Proofs.YtamieopjigjfiaaDoor
set_option maxRecDepth 100000
open Go Go.RowKit Go.Sort
attribute [local go_sem] setCell_drewN alloc_drewN


/-! Bytes shifted into words. -/
abbrev Wd := BitVec 32
def wo (l : List B) (j : Nat) : Wd := wd (l.getD (4 * j) 0#8) (l.getD (4 * j + 1) 0#8) (l.getD (4 * j + 2) 0#8) (l.getD (4 * j + 3) 0#8)
def sh (l : List B) (j : Nat) : Nat → Wd
  | 0 => wd 0#8 0#8 0#8 0#8
  | 1 => wd 0#8 0#8 0#8 (l.getD (4 * j) 0#8)
  | 2 => wd 0#8 0#8 (l.getD (4 * j) 0#8) (l.getD (4 * j + 1) 0#8)
  | 3 => wd 0#8 (l.getD (4 * j) 0#8) (l.getD (4 * j + 1) 0#8) (l.getD (4 * j + 2) 0#8)
  | _ => wo l j
theorem or_lo (a b c d : B) : bits .or .u32 (wv (wd a b c 0#8)) (bv d) = wv (wd a b c d) := or_abcd a b c d
theorem sh_step (l : List B) (j m : Nat) (hm : m < 4) : bits .or .u32 (wv (sh l j m) * 256 % 4294967296) (bv (l.getD (4 * j + m) 0#8)) = wv (sh l j (m + 1)) := by
  rcases (show m = 0 ∨ m = 1 ∨ m = 2 ∨ m = 3 by omega) with rfl | rfl | rfl | rfl <;> simp only [sh, wo, wd_shl, or_lo, Nat.add_zero]
def wl (ws : List Wd) : List Int := ws.map wv
theorem wl_len (ws : List Wd) : (wl ws).length = ws.length := by simp [wl]
theorem wl_get (l : List Wd) (j : Nat) : (wl l).getD j 0 = wv (l.getD j 0#32) := by
  simp only [wl, List.getD_eq_getElem?_getD, List.getElem?_map]
  cases l[j]? <;> rfl
theorem wl_set (l : List Wd) (j : Nat) (z : Wd) : (wl l).set j (wv z) = wl (l.set j z) := by
  simp [wl, List.map_set]
theorem wrow_cell {W : World} {g : Nat} {l : List Wd} {t : TypeId} (hg : W.heap[g]? = some (.cells (irow .u32 (wl l)) t (0, 0))) {j : Nat} (hj : j < l.length) : W.cell? ⟨g, j, none⟩ = some (.int .u32 (wv (l.getD j 0#32))) := by
  rw [← wl_get]; exact irow_cell hg (by rw [wl_len]; exact hj)
theorem wrow_set {W : World} {g : Nat} {l : List Wd} {t : TypeId} (hg : W.heap[g]? = some (.cells (irow .u32 (wl l)) t (0, 0))) (j : Nat) (z : Wd) : (W.setCell ⟨g, j, none⟩ (.int .u32 (wv z))).heap[g]? = some (.cells (irow .u32 (wl (l.set j z))) t (0, 0)) := by
  rw [← wl_set]; exact irow_set hg j (wv z)
def shw (l : List B) (n k : Nat) : List Wd := (List.range n).map fun j => sh l j (min 4 (k - 4 * j))
theorem shw_len (l : List B) (n k : Nat) : (shw l n k).length = n := by simp [shw]
theorem shw_get (l : List B) (n k j : Nat) (h : j < n) : (shw l n k).getD j 0#32 = sh l j (min 4 (k - 4 * j)) := by
  simp [shw, List.getD_eq_getElem?_getD, h]
theorem shw_set (l : List B) (n k : Nat) (h : k < 4 * n) : (shw l n k).set (k / 4) (sh l (k / 4) (k % 4 + 1)) = shw l n (k + 1) := by
  apply List.ext_getElem?
  intro j
  rw [List.getElem?_set]
  by_cases e : k / 4 = j
  · rw [if_pos e, if_pos (by rw [shw_len]; omega)]
    have hj : j < n := by omega
    simp only [shw, List.getElem?_map, List.getElem?_range hj, Option.map_some]
    rw [show min 4 (k + 1 - 4 * j) = k % 4 + 1 by omega, e]
  · rw [if_neg e]
    simp only [shw, List.getElem?_map]
    by_cases hj : j < n
    · simp only [List.getElem?_range hj, Option.map_some]
      rw [show min 4 (k + 1 - 4 * j) = min 4 (k - 4 * j) by omega]
    · rw [List.getElem?_eq_none (by simp; omega)]; rfl
def wos (l : List B) (n : Nat) : List Wd := (List.range n).map (wo l)
theorem wos_len (l : List B) (n : Nat) : (wos l n).length = n := by simp [wos]
theorem wos_get (l : List B) (n j : Nat) (h : j < n) : (wos l n).getD j 0#32 = wo l j := by
  simp [wos, List.getD_eq_getElem?_getD, h]
theorem shw_zero (l : List B) (n : Nat) : shw l n 0 = List.replicate n 0#32 := by
  apply List.ext_getElem (by simp [shw])
  intro i h1 h2
  simp [shw, sh, wd]
theorem shw_full (l : List B) (n k : Nat) (h : 4 * n ≤ k) : shw l n k = wos l n := by
  apply List.map_congr_left
  intro j hj
  rw [List.mem_range] at hj
  rw [show min 4 (k - 4 * j) = 4 by omega]; rfl
theorem wl_zr (n : Nat) : wl (List.replicate n 0#32) = zr n := by
  simp only [wl, zr, List.map_replicate]; rfl
theorem info_wl {t : TypeId} {n : Nat} (ht : (Tryd.prog.info? t).map (·.size) = some n) (l : List Wd) (h : l.length = n) : (Tryd.prog.info? t).map (·.size) = some (irow .u32 (wl l)).size := by
  rw [irow_size, wl_len, h]; exact ht
theorem info_bl {t : TypeId} {n : Nat} (ht : (Tryd.prog.info? t).map (·.size) = some n) (l : List B) (h : l.length = n) : (Tryd.prog.info? t).map (·.size) = some (irow .u8 (bl l)).size := by
  rw [irow_size, bl_len, h]; exact ht
theorem infoB : (Tryd.prog.info? 53).map (·.size) = some 16 := by kernel_rfl
theorem infoC : (Tryd.prog.info? 81).map (·.size) = some 4 := by kernel_rfl
theorem zBl (W : World) : (Instr.alloc 53 true (.tuple #[])).run Tryd.prog W = .ok (.pointer (some ⟨W.heap.size, 0, none⟩)) (W.alloc (.cells (irow .u8 (zr 16)) 53)) := by kernel_rfl
theorem zCo (W : World) : (Instr.alloc 81 true (.tuple #[])).run Tryd.prog W = .ok (.pointer (some ⟨W.heap.size, 0, none⟩)) (W.alloc (.cells (irow .u32 (zr 4)) 81)) := by kernel_rfl
theorem bBl (cs : Array Value) (W : World) : (Instr.box 53 (.agg cs)).run Tryd.prog W = .ok (.pointer (some ⟨W.heap.size, 0, none⟩)) (W.alloc (.cells cs 53)) := by kernel_rfl
theorem bCo (cs : Array Value) (W : World) : (Instr.box 81 (.agg cs)).run Tryd.prog W = .ok (.pointer (some ⟨W.heap.size, 0, none⟩)) (W.alloc (.cells cs 81)) := by kernel_rfl
theorem indexB (l : List B) (hl : l.length = 16) (j : Nat) (hj : j < 16) (W : World) : (Instr.index 53 (.agg (irow .u8 (bl l))) (.int .i64 (j : Int))).run Tryd.prog W = .ok (.int .u8 (bv (l.getD j 0#8))) W := by
  obtain ⟨i0, hi⟩ : ∃ i, Tryd.prog.info? 5 = some i := ⟨_, rfl⟩
  rw [← bl_get]
  exact index_row Tryd.underlying53 Tryd.underlying5 hi (fun W => by kernel_rfl) (bl l) (by rw [bl_len, hl]) j hj W

set_option maxRecDepth 100000 in
set_option maxHeartbeats 4000000 in
theorem a_cut (l : List B) (hl : l.length = 16) : Gives 60 #[.agg (irow .u8 (bl (l)))] (.agg (irow .u32 (wl (wos l 4)))) := by
  intro w
  have hz : ∀ W : World, (Instr.alloc 81 true (.tuple #[])).run Tryd.prog W = .ok (.pointer (some ⟨W.heap.size, 0, none⟩)) (W.alloc (.cells (irow .u32 (wl (shw l 4 0))) 81)) := by rw [shw_zero, wl_zr]; exact zCo
  have R0 := hp3_0 w (.cells (irow .u8 (bl (l))) 53) (.cells (irow .u32 (wl (shw l 4 0))) 81) (.cells (irow .u32 (wl (shw l 4 0))) 81)
  have R1 := hp3_1 w (.cells (irow .u8 (bl (l))) 53) (.cells (irow .u32 (wl (shw l 4 0))) 81) (.cells (irow .u32 (wl (shw l 4 0))) 81)
  have R2 := hp3_2 w (.cells (irow .u8 (bl (l))) 53) (.cells (irow .u32 (wl (shw l 4 0))) 81) (.cells (irow .u32 (wl (shw l 4 0))) 81)
  have HW : Below w.heap.size w (((w.alloc (.cells (irow .u8 (bl (l))) 53)).alloc (.cells (irow .u32 (wl (shw l 4 0))) 81)).alloc (.cells (irow .u32 (wl (shw l 4 0))) 81)) := ((((Below.refl _ _).alloc (Nat.le_refl _) _).alloc (by simp) _).alloc (by simp; omega) _)

  have hi0 := info_bl infoB l hl
  have hi1 := info_wl infoC (wos l 4) (wos_len _ _)
  go_enter Tryd.func60, Tryd.ntmps60
  go_wp2_with (first | (refine wpList_box rfl 53 _ rfl _ rfl (bBl _) ?_) | (refine wpList_alloc rfl 81 rfl (irow .u32 (wl (shw l 4 0))) hz ?_) | (refine wpList_load_want rfl 53 _ rfl (w.heap.size) rfl 53 (irow .u8 (bl (l))) (0, 0) _ R0 Tryd.underlying53 rfl hi0 ?_) | fail)
  try simp only [size_alloc1, Act.put, List.setIfInBounds_toArray, List.set_cons_succ, List.set_cons_zero]
  generalize (((w.alloc (.cells (irow .u8 (bl (l))) 53)).alloc (.cells (irow .u32 (wl (shw l 4 0))) 81)).alloc (.cells (irow .u32 (wl (shw l 4 0))) 81)) = w0 at *
  go_loopw [7] (fun i wr => ∃ k : Nat, k ≤ 16 ∧ i = .int .i64 k ∧ wr.heap[w.heap.size]? = some (.cells (irow .u8 (bl (l))) 53 (0, 0)) ∧ wr.heap[w.heap.size + 1]? = some (.cells (irow .u32 (wl (shw l 4 0))) 81 (0, 0)) ∧ wr.heap[w.heap.size + 1 + 1]? = some (.cells (irow .u32 (wl (shw l 4 k))) 81 (0, 0)) ∧ Below w.heap.size w wr) (fun i _ => 16 - (intOf i).toNat)
  case atStart => exact ⟨0, by omega, rfl, R0, R1, R2, HW⟩
  case round =>
    clear R0 R1 R2 HW hz
    obtain ⟨k, hk, rfl, r0, r1, r2, hw⟩ := hrel
    by_cases hlt : k < 16
    · have hd : decide ((k : Int) < 16) = true := by simp; omega
      have hix := indexB l hl k hlt wr
      have hq : (k : Int).tdiv 4 = ((k / 4 : Nat) : Int) := by rw [Int.tdiv_eq_ediv_of_nonneg (by omega)]; rfl
      have c0 := wrow_cell r2 (j := k / 4) (by rw [shw_len]; omega)
      rw [shw_get l 4 k (k / 4) (by omega), show min 4 (k - 4 * (k / 4)) = k % 4 by omega] at c0
      have hs := sh_step l (k / 4) (k % 4) (by omega)
      rw [show 4 * (k / 4) + k % 4 = k by omega] at hs
      have hset := hide (shw_set l 4 k (by omega))
      have hf := row_frozen r2 (k / 4)
      have b1 := bnd (l.getD k 0#8)
      have b2 := wnd (sh l (k / 4) (k % 4))
      generalize sh l (k / 4) (k % 4) = S0 at *
      generalize sh l (k / 4) (k % 4 + 1) = S1 at *
      generalize l.getD k 0#8 = x at *
      go_wp2
      refine ⟨⟨k + 1, by omega, by go_num, heap_other r0 (by omega), heap_other r1 (by omega), by rw [← hset.out]; exact wrow_set r2 (k / 4) S1, hw.setCell (show w.heap.size ≤ w.heap.size + 1 + 1 by omega) _⟩, by simp [intOf]; omega⟩
    · obtain rfl : k = 16 := by omega
      have hd : decide ((16 : Int) < 16) = false := by decide
      rw [shw_full l 4 16 (by omega)] at r2
      have hfi : (irow .u32 (wl (shw l 4 0))).size = (irow .u32 (wl (wos l 4))).size := by rw [irow_size, irow_size, wl_len, wl_len, shw_len, wos_len]
      clear hk hlt
      go_wp2_with (first | (refine wpList_load_want rfl 81 _ rfl (w.heap.size + 1 + 1) rfl 81 (irow .u32 (wl (wos l 4))) (0, 0) _ r2 Tryd.underlying81 rfl hi1 ?_) | (refine wpList_store_row rfl 81 _ _ rfl (w.heap.size + 1) (irow .u32 (wl (wos l 4))) rfl rfl 81 _ r1 hi1 hfi (irow_one _ _) ?_) | fail)
      replace r1 := setRow_heap wr (w.heap.size + 1) _ (irow .u32 (wl (wos l 4))) _ _ r1
      replace hw := below_setRow hw (show w.heap.size ≤ w.heap.size + 1 by omega) (irow .u32 (wl (wos l 4)))
      generalize wr.setRow (w.heap.size + 1) (irow .u32 (wl (wos l 4))) = w9 at *
      exact bodyPost_ret (v := .agg (irow .u32 (wl (wos l 4)))) (results_cell_row Tryd.results60 _ _ (w.heap.size + 1) _ _ _ _ rfl r1 Tryd.underlying81 rfl hi1) rfl ⟨rfl, hw⟩

/-- A list's byte, by a name that no rule opens. -/
def gb (l : List B) (i : Nat) : B := l.getD i 0#8
theorem pt_self (l : List B) (hl : l.length = 16) : pt (gb l) 16 16 = l := ext16 (pt_len _ _ _) hl fun _ hi => pt_get _ 16 16 hi hi
theorem byte_of (l : List B) (q r : Nat) (hr : r < 4) : wv (wo l q) / 2 ^ (24 - 8 * r) % 256 = bv (l.getD (4 * q + r) 0#8) := by
  rcases (show r = 0 ∨ r = 1 ∨ r = 2 ∨ r = 3 by omega) with rfl | rfl | rfl | rfl
  · have := wd_a_of (l.getD (4 * q) 0#8) (l.getD (4 * q + 1) 0#8) (l.getD (4 * q + 2) 0#8) (l.getD (4 * q + 3) 0#8)
    have b := bnd (l.getD (4 * q) 0#8)
    show wv (wd _ _ _ _) / 16777216 % 256 = _
    rw [this]; exact Int.emod_eq_of_lt b.1 b.2
  · exact wd_b_of _ _ _ _
  · exact wd_c_of _ _ _ _
  · have := wd_d_of (l.getD (4 * q) 0#8) (l.getD (4 * q + 1) 0#8) (l.getD (4 * q + 2) 0#8) (l.getD (4 * q + 3) 0#8)
    show wv (wd _ _ _ _) / 1 % 256 = _
    rw [Int.ediv_one]; exact this
set_option maxRecDepth 100000 in
set_option maxHeartbeats 4000000 in
theorem a_joined (l : List B) (hl : l.length = 16) : Gives 61 #[.agg (irow .u32 (wl (wos l 4)))] (.agg (irow .u8 (bl (l)))) := by
  intro w
  have hz : ∀ W : World, (Instr.alloc 53 true (.tuple #[])).run Tryd.prog W = .ok (.pointer (some ⟨W.heap.size, 0, none⟩)) (W.alloc (.cells (irow .u8 (bl (pt (gb l) 16 0))) 53)) := by rw [← zr_pt]; exact zBl
  have R0 := hp3_0 w (.cells (irow .u32 (wl (wos l 4))) 81) (.cells (irow .u8 (bl (pt (gb l) 16 0))) 53) (.cells (irow .u8 (bl (pt (gb l) 16 0))) 53)
  have R1 := hp3_1 w (.cells (irow .u32 (wl (wos l 4))) 81) (.cells (irow .u8 (bl (pt (gb l) 16 0))) 53) (.cells (irow .u8 (bl (pt (gb l) 16 0))) 53)
  have R2 := hp3_2 w (.cells (irow .u32 (wl (wos l 4))) 81) (.cells (irow .u8 (bl (pt (gb l) 16 0))) 53) (.cells (irow .u8 (bl (pt (gb l) 16 0))) 53)
  have HW : Below w.heap.size w (((w.alloc (.cells (irow .u32 (wl (wos l 4))) 81)).alloc (.cells (irow .u8 (bl (pt (gb l) 16 0))) 53)).alloc (.cells (irow .u8 (bl (pt (gb l) 16 0))) 53)) := ((((Below.refl _ _).alloc (Nat.le_refl _) _).alloc (by simp) _).alloc (by simp; omega) _)

  have hi0 := info_bl infoB l hl
  go_enter Tryd.func61, Tryd.ntmps61
  go_wp2_with (first | (refine wpList_box rfl 81 _ rfl _ rfl (bCo _) ?_) | (refine wpList_alloc rfl 53 rfl (irow .u8 (bl (pt (gb l) 16 0))) hz ?_) | fail)
  try simp only [size_alloc1, Act.put, List.setIfInBounds_toArray, List.set_cons_succ, List.set_cons_zero]
  generalize (((w.alloc (.cells (irow .u32 (wl (wos l 4))) 81)).alloc (.cells (irow .u8 (bl (pt (gb l) 16 0))) 53)).alloc (.cells (irow .u8 (bl (pt (gb l) 16 0))) 53)) = w0 at *
  go_loopw [5] (fun i wr => ∃ k : Nat, k ≤ 16 ∧ i = .int .i64 k ∧ wr.heap[w.heap.size]? = some (.cells (irow .u32 (wl (wos l 4))) 81 (0, 0)) ∧ wr.heap[w.heap.size + 1]? = some (.cells (irow .u8 (bl (pt (gb l) 16 0))) 53 (0, 0)) ∧ wr.heap[w.heap.size + 1 + 1]? = some (.cells (irow .u8 (bl (pt (gb l) 16 k))) 53 (0, 0)) ∧ Below w.heap.size w wr) (fun i _ => 16 - (intOf i).toNat)
  case atStart => exact ⟨0, by omega, rfl, R0, R1, R2, HW⟩
  case round =>
    clear R0 R1 R2 HW hz
    obtain ⟨k, hk, rfl, r0, r1, r2, hw⟩ := hrel
    by_cases hlt : k < 16
    · have hd : decide ((k : Int) < 16) = true := by simp; omega
      have hq : (k : Int).tdiv 4 = ((k / 4 : Nat) : Int) := by rw [Int.tdiv_eq_ediv_of_nonneg (by omega)]; rfl
      have c0 := wrow_cell r0 (j := k / 4) (by rw [wos_len]; omega)
      rw [wos_get l 4 (k / 4) (by omega)] at c0
      have hby := byte_of l (k / 4) (k % 4) (by omega)
      rw [show 4 * (k / 4) + k % 4 = k by omega] at hby
      have hset := hide (pt_set (gb l) 16 k hlt)
      rw [show l.getD k 0#8 = gb l k from rfl] at hby
      have c1 := brow_cell r2 (j := k) (by rw [pt_len]; exact hlt)
      have hf := row_frozen r2 k
      have b2 := wnd (wo l (k / 4))
      generalize wo l (k / 4) = S0 at *
      generalize gb l k = x at *
      go_wp2
      refine ⟨⟨k + 1, by omega, by go_num, heap_other r0 (by omega), heap_other r1 (by omega), by rw [← hset.out]; exact brow_set r2 k x, hw.setCell (show w.heap.size ≤ w.heap.size + 1 + 1 by omega) _⟩, by simp [intOf]; omega⟩
    · obtain rfl : k = 16 := by omega
      have hd : decide ((16 : Int) < 16) = false := by decide
      rw [pt_self l hl] at r2
      have hfi : (irow .u8 (bl (pt (gb l) 16 0))).size = (irow .u8 (bl (l))).size := by rw [irow_size, irow_size, bl_len, bl_len, pt_len, hl]
      clear hk hlt
      go_wp2_with (first | (refine wpList_load_want rfl 53 _ rfl (w.heap.size + 1 + 1) rfl 53 (irow .u8 (bl (l))) (0, 0) _ r2 Tryd.underlying53 rfl hi0 ?_) | (refine wpList_store_row rfl 53 _ _ rfl (w.heap.size + 1) (irow .u8 (bl (l))) rfl rfl 53 _ r1 hi0 hfi (irow_one _ _) ?_) | fail)
      replace r1 := setRow_heap wr (w.heap.size + 1) _ (irow .u8 (bl (l))) _ _ r1
      replace hw := below_setRow hw (show w.heap.size ≤ w.heap.size + 1 by omega) (irow .u8 (bl (l)))
      generalize wr.setRow (w.heap.size + 1) (irow .u8 (bl (l))) = w9 at *
      exact bodyPost_ret (v := .agg (irow .u8 (bl (l)))) (results_cell_row Tryd.results61 _ _ (w.heap.size + 1) _ _ _ _ rfl r1 Tryd.underlying53 rfl hi0) rfl ⟨rfl, hw⟩

end Go.Proofs.YtamieopjigjfiaaDoor


namespace Go.Proofs.YtamieopjigjfiaaDoor
set_option maxRecDepth 100000
open Go Go.RowKit Go.Sort

/-! The counter. -/
/-- What is carried into the k-th byte from behind. -/
def cr (l : List B) (n : Nat) : Nat → Nat
  | 0 => n
  | k + 1 => (cr l n k + (gb l (15 - k)).toNat) / 256
def ctb (l : List B) (n i : Nat) : B := BitVec.ofNat 8 (cr l n (15 - i) + (gb l i).toNat)
def ctr (l : List B) (n : Nat) : List B := mk16 (ctb l n)
theorem ctr_len (l : List B) (n : Nat) : (ctr l n).length = 16 := mk16_len _
theorem ctr_get (l : List B) (n : Nat) {i : Nat} (h : i < 16) : gb (ctr l n) i = ctb l n i := mk16_get _ h
/-- The number that the last k bytes are. -/
def low (l : List B) : Nat → Nat
  | 0 => 0
  | k + 1 => low l k + (gb l (15 - k)).toNat * 256 ^ k
theorem low_lt (l : List B) (k : Nat) : low l k < 256 ^ k := by
  induction k with
  | zero => simp [low]
  | succ k ih =>
    rw [low, Nat.pow_succ]
    have h := (gb l (15 - k)).isLt
    have : (gb l (15 - k)).toNat * 256 ^ k ≤ 255 * 256 ^ k := Nat.mul_le_mul_right _ (by omega)
    omega
theorem low_ctr (l : List B) (n k : Nat) (hk : k ≤ 16) : low (ctr l n) k + cr l n k * 256 ^ k = low l k + n := by
  induction k with
  | zero => simp [low, cr]
  | succ k ih =>
    have h := ih (by omega)
    rw [low, low, cr, ctr_get l n (by omega), ctb, show 15 - (15 - k) = k by omega, BitVec.toNat_ofNat, show 256 ^ (k + 1) = 256 ^ k * 256 from Nat.pow_succ _ _]
    generalize hs : cr l n k + (gb l (15 - k)).toNat = s
    have e1 : s % 2 ^ 8 * 256 ^ k + s / 256 * (256 ^ k * 256) = s * 256 ^ k := by
      have := Nat.div_add_mod s 256
      rw [show (2 : Nat) ^ 8 = 256 from rfl, Nat.mul_comm (256 ^ k) 256, ← Nat.mul_assoc, ← Nat.add_mul]
      congr 1; omega
    have e2 : s * 256 ^ k = cr l n k * 256 ^ k + (gb l (15 - k)).toNat * 256 ^ k := by rw [← hs, Nat.add_mul]
    generalize s % 2 ^ 8 * 256 ^ k = A at *
    generalize s / 256 * (256 ^ k * 256) = C at *
    generalize s * 256 ^ k = D at *
    generalize cr l n k * 256 ^ k = E at *
    generalize (gb l (15 - k)).toNat * 256 ^ k = F at *
    omega
theorem lowc_mod (l : List B) (n k : Nat) (hk : k ≤ 16) : low (ctr l n) k = (low l k + n) % 256 ^ k := by
  rw [← low_ctr l n k hk, Nat.add_mul_mod_self_right, Nat.mod_eq_of_lt (low_lt _ _)]
theorem low_ext {a b : List B} (ha : a.length = 16) (hb : b.length = 16) (h : ∀ k ≤ 16, low a k = low b k) : a = b := by
  apply ext16 ha hb
  intro i hi
  have h1 := h (15 - i) (by omega)
  have h2 := h (15 - i + 1) (by omega)
  rw [low, low, h1, show 15 - (15 - i) = i by omega] at h2
  have h3 := Nat.add_left_cancel h2
  have h4 := Nat.eq_of_mul_eq_mul_right (Nat.pow_pos (by decide)) h3
  exact BitVec.eq_of_toNat_eq h4
theorem ctr_ctr (l : List B) (a b : Nat) : ctr (ctr l a) b = ctr l (a + b) := by
  apply low_ext (ctr_len _ _) (ctr_len _ _)
  intro k hk
  rw [lowc_mod _ _ _ hk, lowc_mod _ _ _ hk, lowc_mod _ _ _ hk, Nat.mod_add_mod, Nat.add_assoc]
theorem ctr_zero (l : List B) (hl : l.length = 16) : ctr l 0 = l := by
  apply low_ext (ctr_len _ _) hl
  intro k hk
  rw [lowc_mod _ _ _ hk, Nat.add_zero, Nat.mod_eq_of_lt (low_lt _ _)]

/-! The stream. -/
def sby (K nonce : List B) (i : Nat) : B := gb (enc K (ctr nonce (i / 16))) (i % 16)
def cry (K nonce : List B) (at_ : Nat) (d : List B) : List B := (List.range d.length).map fun i => gb d i ^^^ sby K nonce (at_ + i)
theorem cry_len (K nonce : List B) (at_ : Nat) (d : List B) : (cry K nonce at_ d).length = d.length := by simp [cry]
theorem cry_get (K nonce : List B) (at_ : Nat) (d : List B) (i : Nat) (h : i < d.length) : gb (cry K nonce at_ d) i = gb d i ^^^ sby K nonce (at_ + i) := by
  simp [cry, gb, List.getD_eq_getElem?_getD, h]
theorem ext_gb {a b : List B} (hl : a.length = b.length) (h : ∀ i < a.length, gb a i = gb b i) : a = b := by
  apply List.ext_getElem hl
  intro i h1 h2
  have := h i h1
  rwa [gb, gb, List.getD_eq_getElem?_getD, List.getElem?_eq_getElem h1, List.getD_eq_getElem?_getD, List.getElem?_eq_getElem h2] at this
theorem cry_cry (K nonce : List B) (at_ : Nat) (d : List B) : cry K nonce at_ (cry K nonce at_ d) = d := by
  apply ext_gb (by rw [cry_len, cry_len])
  intro i h
  rw [cry_len, cry_len] at h
  rw [cry_get _ _ _ _ _ (by rw [cry_len]; exact h), cry_get _ _ _ _ _ h, BitVec.xor_assoc, BitVec.xor_self, BitVec.xor_zero]
theorem gb_app_l (a b : List B) (i : Nat) (h : i < a.length) : gb (a ++ b) i = gb a i := by
  rw [gb, gb, List.getD_eq_getElem?_getD, List.getD_eq_getElem?_getD, List.getElem?_append_left h]
theorem gb_app_r (a b : List B) (i : Nat) (h : a.length ≤ i) : gb (a ++ b) i = gb b (i - a.length) := by
  rw [gb, gb, List.getD_eq_getElem?_getD, List.getD_eq_getElem?_getD, List.getElem?_append_right h]
theorem cry_app (K nonce : List B) (at_ : Nat) (a b : List B) : cry K nonce at_ (a ++ b) = cry K nonce at_ a ++ cry K nonce (at_ + a.length) b := by
  apply ext_gb (by rw [cry_len, List.length_append, List.length_append, cry_len, cry_len])
  intro i h
  rw [cry_len] at h
  rw [cry_get _ _ _ _ _ h]
  rw [List.length_append] at h
  by_cases h1 : i < a.length
  · rw [gb_app_l _ _ _ h1, gb_app_l _ _ _ (by rw [cry_len]; exact h1), cry_get _ _ _ _ _ h1]
  · rw [gb_app_r _ _ _ (by omega), gb_app_r _ _ _ (by rw [cry_len]; omega), cry_len, cry_get _ _ _ _ _ (by omega), show at_ + a.length + (i - a.length) = at_ + i by omega]
theorem sby_shift (K nonce : List B) (k i : Nat) : sby K nonce (16 * k + i) = sby K (ctr nonce k) i := by
  rw [sby, sby, ctr_ctr, show (16 * k + i) / 16 = k + i / 16 by omega, show (16 * k + i) % 16 = i % 16 by omega]
theorem cry_shift (K nonce : List B) (k : Nat) (d : List B) : cry K nonce (16 * k) d = cry K (ctr nonce k) 0 d := by
  apply ext_gb (by rw [cry_len, cry_len])
  intro i h
  rw [cry_len] at h
  rw [cry_get _ _ _ _ _ h, cry_get _ _ _ _ _ h, sby_shift, Nat.zero_add]
end Go.Proofs.YtamieopjigjfiaaDoor

namespace Go.Proofs.YtamieopjigjfiaaDoor
set_option maxRecDepth 100000
open Go Go.RowKit Go.Sort
attribute [local go_sem] setCell_drewN alloc_drewN

/-- How long a slice is. -/
def slen5 : Value → Nat
  | .slice _ l _ => l
  | _ => 0
theorem slen_own5 {W : World} {b : Nat} {T : TypeId} {sz : Nat} {v : Value} {n : Nat} {xs : List Value} (h : W.ownsRow b T sz v n xs) : ∃ ao cap, v = .slice ao n cap := by
  obtain ⟨_, ⟨rfl, rfl⟩ | ⟨g, cap, cur, rfl, _⟩⟩ := h
  · exact ⟨_, _, rfl⟩
  · exact ⟨_, _, rfl⟩
set_option maxRecDepth 100000 in
theorem info85 : ∃ i, Tryd.prog.info? 5 = some i ∧ i.zero = some (.int .u8 0) ∧ i.size = 1 ∧ i.bytes = 1 := ⟨_, rfl, rfl, rfl, rfl⟩
theorem new_cell5 (wr : World) (x : Int) : ∀ j u, [Value.int .u8 x][j]? = some u → (wr.alloc (.cells #[.int .u8 x] 5)).cell? ((⟨wr.heap.size, 0, none⟩ : Addr).add j) = some u := by
  intro j u hu
  have hj : j = 0 := by
    have := (List.getElem?_eq_some_iff.1 hu).1
    simp at this
    exact this
  subst hj
  simp at hu
  subst hu
  rw [addr_add]
  have hg : (wr.alloc (.cells #[.int .u8 x] 5)).heap[wr.heap.size]? = some (.cells #[.int .u8 x] 5 (0, 0)) := hp1_0 wr _
  simp only [World.cell?, hg]
  rfl

/-- An append whose row is either the old one or a new block. -/
theorem wpList_append_two5 {P : Program} (w : World) {ops : Array Oper} {rest : List Oper} {o : Oper} {a : Act} {Q : Exit → Act → World → Prop} (hgd : o.guard = none) (s x : Operand) (t : TypeId)
    (ho : o.op = .call { callee := .builtin .append, args := #[s, x], argTypes := #[t, t] })
    (base : Nat) (e : TypeId) (i : TypeInfo) (z : Value) (ht : P.underlying t = some (.slice e)) (hi : P.info? e = some i) (hz : i.zero = some z)
    (hsize : i.size = 1) (hby : i.bytes = 1) (hzs : z.cells.size = 1)
    (g n cap : Nat) (xs : List Value) (hs : a.eval s = .slice (some ⟨g, 0, none⟩) n cap) (hown : w.ownsRow base e 1 (.slice (some ⟨g, 0, none⟩) n cap) n xs)
    (ad : Addr) (m c : Nat) (news : List Value) (hx : a.eval x = .slice (some ad) m c) (hl : news.length = m * 1) (hnews : ∀ j u, news[j]? = some u → w.cell? (ad.add j) = some u) (h1 : ∀ u ∈ news, u.oneCell' = true)
    (h63 : n + m ≤ maxLen) (hbytes : (n + m) * 1 ≤ 140737488355328) (hbase : base ≤ w.heap.size)
    (h : ∀ g' cap' w', w'.ownsRow base e 1 (.slice (some ⟨g', 0, none⟩) (n + m) cap') (n + m) (xs ++ news) → w.grownBy w' (some g) → (g' = g ∨ g' = w.heap.size) → wpList P ops Q rest (a.put o.dst (.slice (some ⟨g', 0, none⟩) (n + m) cap')) w') : wpList P ops Q (o :: rest) a w := by
  refine wpList_plain hgd fun K hK => ?_
  obtain ⟨v', w', hr, h2, h3, _⟩ := run_append_own (P := P) w base t o.type e i z 1 1 ht hi hz hsize hby hzs (by decide) _ n xs hown ad m c news hl hnews h1 h63 hbytes hbase
  have key : ∃ g' cap', v' = .slice (some ⟨g', 0, none⟩) (n + m) cap' ∧ (g' = g ∨ g' = w.heap.size) := by
    rcases hown.2 with ⟨hv, _⟩ | ⟨g1, cap1, cur, hv, hbg, hg, hnc, hcm, hcs, htake⟩
    · cases hv
    · cases hv
      by_cases hroom : n + m ≤ cap
      · have hr2 := run_append_room (P := P) w t o.type e i ht hi g n cap cur hg ad m c news (by rw [hsize]; exact hl) hnews h1 hroom (by rw [hsize, hl, hcs]; omega)
        have := hr.symm.trans hr2
        injection this with e1 e2
        exact ⟨g, cap, e1, .inl rfl⟩
      · have holds : ∀ j u, xs[j]? = some u → w.cell? ((⟨g, 0, none⟩ : Addr).add j) = some u := hown.cells (g := g) rfl
        have hr2 := run_append_grow (P := P) w t o.type e i z ht hi hz ⟨g, 0, none⟩ n cap xs (by rw [hsize]; exact hown.1) holds ad m c news (by rw [hsize]; exact hl) hnews (by omega) (by simp only [maxLen] at h63; omega) (growslice_fits (by omega) (by rw [hby]; exact hbytes))
        have := hr.symm.trans hr2
        injection this with e1 e2
        exact ⟨_, _, e1, .inr rfl⟩
  obtain ⟨g', cap', rfl, hgg⟩ := key
  unfold Oper.wp execOp
  simp only [ho, resolve, invoke, builtin, Sem.run_bind, Sem.run_pure, Result.andThen_ok, List.map_toArray, List.map_cons, List.map_nil, hs, hx, hr]
  exact hK _ _ (h g' cap' w' h2 h3 hgg)
theorem grown_trans5 {a b c : World} {row : Option Nat} {g : Nat} (h : a.grownBy b (some g)) (h2 : b.grownBy c row) (hr : row = none ∨ row = some g ∨ ∃ k, row = some k ∧ a.heap.size ≤ k) : a.grownBy c (some g) := by
  refine ⟨h2.os.trans h.os, h2.tape.trans h.tape, h2.output.trans h.output, Nat.le_trans h.size h2.size, fun k hk hn => ?_⟩
  have h3 := h.size
  refine (h2.block k (by omega) ?_).trans (h.block k hk hn)
  rcases hr with rfl | rfl | ⟨q, rfl, hq⟩
  · simp
  · exact hn
  · intro e; injection e with e; omega
theorem grown_setCell5 {a b : World} {g j : Nat} {v : Value} (h : a.grownBy b (some g)) : a.grownBy (b.setCell ⟨g, j, none⟩ v) (some g) := by
  refine ⟨h.os, h.tape, h.output, ?_, fun k hk hn => ?_⟩
  · have e : (b.setCell ⟨g, j, none⟩ v).heap.size = b.heap.size := by simp [World.setCell]
    rw [e]; exact h.size
  · rw [heap_setCell_other b ⟨g, j, none⟩ k v (fun e => hn (by rw [e]))]
    exact h.block k hk hn
/-- The marked room behind what is lent. -/
def marks (k : Nat) : List Int := (List.range k).map fun (i : Nat) => 171 + ((i % 60 : Nat) : Int)
theorem marks_succ (k : Nat) : marks (k + 1) = marks k ++ [171 + ((k % 60 : Nat) : Int)] := by simp [marks, List.range_succ]
theorem at_low (bs : List Int) (k : Nat) (hk : k < bs.length) : (bs ++ marks 80).getD k 0 = bs.getD k 0 := by
  simp [List.getD_eq_getElem?_getD, List.getElem?_append_left hk]
theorem at_high (bs : List Int) (k : Nat) (hk : ¬ k < bs.length) (hu : k < bs.length + 80) : (bs ++ marks 80).getD k 0 = 171 + ((k : Int) - bs.length) % 60 := by
  have : k - bs.length < 80 := by omega
  rw [List.getD_eq_getElem?_getD, List.getElem?_append_right (by omega)]
  simp [marks, this]
  omega
end Go.Proofs.YtamieopjigjfiaaDoor

namespace Go.Proofs.YtamieopjigjfiaaDoor
set_option maxRecDepth 100000
open Go Go.RowKit Go.Sort
attribute [local go_sem] setCell_drewN alloc_drewN

/-! The reference's Inverse, quick, spread. -/
/-- The state of quick. -/
def qst : Nat → B → B × B
  | 0, a => (1#8, a)
  | k + 1, a => (tm (qst k a).1 (tm (qst k a).2 (qst k a).2), tm (qst k a).2 (qst k a).2)
theorem qk_qst (a : B) : ∀ n k, qk n (qst k a).1 (qst k a).2 = (qst (k + n) a).1 := by
  intro n
  induction n with
  | zero => intro k; rfl
  | succ n ih =>
    intro k
    have := ih (k + 1)
    rw [qst] at this
    rw [qk, this]
    congr 2
    omega
set_option maxHeartbeats 1000000 in
theorem r_quick (a : B) : Gives 65 #[.int .u8 (bv a)] (.int .u8 (bv (qk 7 1#8 a))) := by
  intro w
  rw [show qk 7 1#8 a = (qst 7 a).1 from qk_qst a 7 0]
  go_enter Tryd.func65, Tryd.ntmps65
  go_wp2_with (fail)
  go_loopw [3, 4, 5] (fun x y i wr => ∃ k : Nat, k ≤ 7 ∧ i = .int .i64 k ∧ x = .int .u8 (bv (qst k a).1) ∧ y = .int .u8 (bv (qst k a).2) ∧ Below w.heap.size w wr) (fun _ _ i _ => 7 - (intOf i).toNat)
  case atStart => exact ⟨0, by omega, rfl, rfl, rfl, Below.refl _ _⟩
  case round =>
    obtain ⟨k, hk, rfl, rfl, rfl, hw⟩ := hrel
    by_cases hlt : k < 7
    · have hd : decide ((k : Int) < 7) = true := by simp; omega
      have e1 : tm (qst k a).1 (tm (qst k a).2 (qst k a).2) = (qst (k + 1) a).1 := rfl
      have e2 : tm (qst k a).2 (qst k a).2 = (qst (k + 1) a).2 := rfl
      have c := r_times (qst k a).2 (qst k a).2
      rw [e2] at c e1
      have c2 := r_times (qst k a).1 (qst (k + 1) a).2
      rw [e1] at c2
      clear e1 e2
      go_wp2_with (fail)
      refine (c.at _).mono ?_
      rintro e w1 ⟨rfl, hb⟩
      go_wp2_with (fail)
      refine (c2.at _).mono ?_
      rintro e w2 ⟨rfl, hb2⟩
      go_wp2
      go_roundw
      case rel => exact ⟨k + 1, by omega, by go_num, rfl, rfl, Below.after (Below.after hw hb) hb2⟩
      case measure => simp [intOf]; omega
    · obtain rfl : k = 7 := by omega
      have hd : decide ((7 : Int) < 7) = false := by decide
      obtain ⟨T, hT⟩ : ∃ T, T = qst 7 a := ⟨_, rfl⟩
      rw [← hT]
      replace hT := hide hT
      clear hlt hk
      go_wp2
      go_ret
      rw [← hT.out]
      exact ⟨rfl, hw⟩
/-- One bit of spread, and spread, as they are put together. -/
def bt (y : B) (i : Nat) : Nat → B
  | 0 => 0#8
  | j + 1 => if j = 0 ∨ 4 ≤ j then bt y i j ^^^ ((y >>> ((i + j) % 8)) &&& 1#8) else bt y i j
def rf (y : B) : Nat → B
  | 0 => 0x63#8
  | i + 1 => rf y i ^^^ (bt y i 8 <<< i)
theorem rf_spr : ∀ y : B, rf y 8 = spr y := by decide +kernel
theorem e_bit (y : B) (n : Nat) : bv y / 2 ^ n % 2 = bv ((y >>> n) &&& 1#8) := by
  unfold bv
  rw [BitVec.toNat_and, BitVec.toNat_ushiftRight, Nat.shiftRight_eq_div_pow]
  rw [show BitVec.toNat 1#8 = 1 from rfl, Nat.and_one_is_mod]
  simp
theorem e_tbit (y : B) (n : Nat) : (bv y / 2 ^ n).tmod 2 = bv ((y >>> n) &&& 1#8) := by
  rw [Int.tmod_eq_emod_of_nonneg, e_bit]
  exact Int.ediv_nonneg (bnd y).1 (Int.pow_nonneg (by decide))
theorem e_shl (c : B) (n : Nat) : bv c * 2 ^ n % 256 = bv (c <<< n) := by
  unfold bv
  rw [BitVec.toNat_shiftLeft, Nat.shiftLeft_eq]
  simp
set_option maxHeartbeats 1000000 in
theorem r_spread (y : B) : Gives 64 #[.int .u8 (bv y)] (.int .u8 (bv (spr y))) := by
  intro w
  rw [← rf_spr]
  have hy := bnd y
  go_enter Tryd.func64, Tryd.ntmps64
  go_wp2_with (fail)
  go_loopw [3, 4] (fun x i wr => ∃ k : Nat, k ≤ 8 ∧ i = .int .i64 k ∧ x = .int .u8 (bv (rf y k)) ∧ Below w.heap.size w wr) (fun _ i _ => 8 - (intOf i).toNat)
  case atStart => exact ⟨0, by omega, rfl, rfl, Below.refl _ _⟩
  case round =>
    obtain ⟨k, hk, rfl, rfl, hw⟩ := hrel
    by_cases hlt : k < 8
    · have hd : decide ((k : Int) < 8) = true := by simp; omega
      have hr := bnd (rf y k)
      obtain ⟨R, hR⟩ : ∃ R, R = rf y k := ⟨_, rfl⟩
      rw [← hR] at hr ⊢
      replace hR := hide hR
      go_wp2_with (fail)
      go_loopw [5, 6] (fun x j W => ∃ l : Nat, l ≤ 8 ∧ j = .int .i64 l ∧ x = .int .u8 (bv (bt y k l)) ∧ W = wr) (fun _ j _ => 8 - (intOf j).toNat)
      case atStart => exact ⟨0, by omega, rfl, rfl, rfl⟩
      case round =>
        obtain ⟨l, hl, rfl, rfl, rfl⟩ := hrel
        by_cases hl8 : l < 8
        · have hd : decide ((l : Int) < 8) = true := by simp; omega
          have hb := bnd (bt y k l)
          by_cases hq : l = 0 ∨ 4 ≤ l
          · have hst : Hid (bt y k (l + 1) = bt y k l ^^^ ((y >>> ((k + l) % 8)) &&& 1#8)) := hide (by rw [bt, if_pos hq])
            rcases hq with hl0 | hl4
            · subst hl0
              go_wp2
              refine ⟨⟨1, by omega, rfl, ?_, trivial⟩, by simp [intOf]⟩
              rw [show (1 : Nat) = 0 + 1 from rfl, hst.out, ← xor8, ← e_tbit, Nat.add_zero]
            · have h0 : ¬ l = 0 := by omega
              have h4 : (4 : Int) ≤ (l : Int) := by omega
              go_wp2
              refine ⟨⟨l + 1, by omega, by go_num, ?_, trivial⟩, by simp [intOf]; omega⟩
              rw [hst.out, ← xor8, ← e_tbit]
          · have hst : Hid (bt y k (l + 1) = bt y k l) := hide (by rw [bt, if_neg hq])
            have h0 : ¬ l = 0 := by omega
            have h4 : ¬ (4 : Int) ≤ (l : Int) := by omega
            go_wp2
            refine ⟨⟨l + 1, by omega, by go_num, by rw [hst.out], trivial⟩, by simp [intOf]; omega⟩
        · obtain rfl : l = 8 := by omega
          have hd : decide ((8 : Int) < 8) = false := by decide
          have hst : Hid (rf y (k + 1) = R ^^^ (bt y k 8 <<< k)) := hide (by rw [hR.out, rf])
          generalize bt y k 8 = C at *
          have hb := bnd C
          go_wp2
          refine ⟨⟨k + 1, by omega, by go_num, ?_, hw⟩, by simp [intOf]; omega⟩
          rw [hst.out, ← xor8, ← e_shl]
    · obtain rfl : k = 8 := by omega
      have hd : decide ((8 : Int) < 8) = false := by decide
      obtain ⟨T, hT⟩ : ∃ T, T = rf y 8 := ⟨_, rfl⟩
      rw [← hT]
      replace hT := hide hT
      clear hlt hk
      go_wp2
      go_ret
      rw [← hT.out]
      exact ⟨rfl, hw⟩
set_option maxRecDepth 100000 in
set_option maxHeartbeats 4000000 in
theorem r_table : Gives 44 #[] (.agg (irow .u8 (bl sbl))) := by
  intro w
  have hz : ∀ W : World, (Instr.alloc 61 true (.tuple #[])).run Tryd.prog W = .ok (.pointer (some ⟨W.heap.size, 0, none⟩)) (W.alloc (.cells (irow .u8 (bl (pt (fun x => sb (BitVec.ofNat 8 x)) 256 0))) 61)) := by rw [← zr_pt]; exact z256
  have R0 := hp2_0 w (.cells (irow .u8 (bl (pt (fun x => sb (BitVec.ofNat 8 x)) 256 0))) 61) (.cells (irow .u8 (bl (pt (fun x => sb (BitVec.ofNat 8 x)) 256 0))) 61)
  have R1 := hp2_1 w (.cells (irow .u8 (bl (pt (fun x => sb (BitVec.ofNat 8 x)) 256 0))) 61) (.cells (irow .u8 (bl (pt (fun x => sb (BitVec.ofNat 8 x)) 256 0))) 61)
  have HW := (((Below.refl w.heap.size w).alloc (Nat.le_refl _) (.cells (irow .u8 (bl (pt (fun x => sb (BitVec.ofNat 8 x)) 256 0))) 61)).alloc (by simp) (.cells (irow .u8 (bl (pt (fun x => sb (BitVec.ofNat 8 x)) 256 0))) 61))
  go_enter Tryd.func44, Tryd.ntmps44
  go_wp2_with (first | (refine wpList_alloc rfl 61 rfl (irow .u8 (bl (pt (fun x => sb (BitVec.ofNat 8 x)) 256 0))) hz ?_) | fail)
  clear hz
  generalize World.alloc _ _ = w0 at *
  go_loopw [2] (fun i wr => ∃ k : Nat, k ≤ 256 ∧ i = .int .i64 k ∧ wr.heap[w.heap.size]? = some (.cells (irow .u8 (bl (pt (fun x => sb (BitVec.ofNat 8 x)) 256 0))) 61 (0, 0)) ∧ wr.heap[w.heap.size + 1]? = some (.cells (irow .u8 (bl (pt (fun x => sb (BitVec.ofNat 8 x)) 256 k))) 61 (0, 0)) ∧ Below w.heap.size w wr) (fun i _ => 256 - (intOf i).toNat)
  case atStart => exact ⟨0, by omega, rfl, R0, R1, HW⟩
  case round =>
    clear R0 R1 HW
    obtain ⟨k, hk, rfl, r0, r1, hw⟩ := hrel
    by_cases hlt : k < 256
    · have hd : decide ((k : Int) < 256) = true := by simp; omega
      have c1 := r_quick (BitVec.ofNat 8 k)
      have c2 := r_spread (qk 7 1#8 (BitVec.ofNat 8 k))
      rw [← sb_qk] at c2
      rw [of_bv k hlt] at c1
      have hset := hide (pt_set (fun x => sb (BitVec.ofNat 8 x)) 256 k hlt)
      go_wp2_with (fail)
      refine (c1.at _).mono ?_
      rintro e w1 ⟨rfl, hb⟩
      replace r0 := keep hb r0
      replace r1 := keep hb r1
      replace hw := Below.after hw hb
      clear hb c1
      go_wp2_with (fail)
      refine (c2.at _).mono ?_
      rintro e w2 ⟨rfl, hb⟩
      replace r0 := keep hb r0
      replace r1 := keep hb r1
      replace hw := Below.after hw hb
      clear hb c2
      have c0 := brow_cell r1 (j := k) (by rw [pt_len]; exact hlt)
      have hf := row_frozen r1 k
      go_wp2
      refine ⟨⟨k + 1, by omega, by go_num, heap_other r0 (by omega), by rw [← hset.out]; exact brow_set r1 k _, hw.setCell (show w.heap.size ≤ w.heap.size + 1 by omega) _⟩, by simp [intOf]; omega⟩
    · obtain rfl : k = 256 := by omega
      have hd : decide ((256 : Int) < 256) = false := by decide
      replace r1 : wr.heap[w.heap.size + 1]? = some (.cells (irow .u8 (bl sbl)) 61 (0, 0)) := r1
      have hin := info256 sbl sbl_len
      have hfi := fit256 (pt (fun x => sb (BitVec.ofNat 8 x)) 256 0) sbl (pt_len _ _ _) sbl_len
      clear hk hlt
      go_wp2_with (first | (refine wpList_load_want rfl 61 _ rfl (w.heap.size + 1) rfl 61 (irow .u8 (bl sbl)) (0, 0) _ r1 Tryd.underlying61 rfl hin ?_) | (refine wpList_store_row rfl 61 _ _ rfl (w.heap.size) (irow .u8 (bl sbl)) rfl rfl 61 _ r0 hin hfi (irow_one _ _) ?_) | fail)
      replace r0 := setRow_heap wr (w.heap.size) _ (irow .u8 (bl sbl)) _ _ r0
      replace hw := below_setRow hw (Nat.le_refl _) (irow .u8 (bl sbl))
      generalize wr.setRow (w.heap.size) (irow .u8 (bl sbl)) = w9 at *
      exact bodyPost_ret (v := .agg (irow .u8 (bl sbl))) (results_cell_row Tryd.results44 _ _ (w.heap.size) _ _ _ _ rfl r0 Tryd.underlying61 rfl hin) rfl ⟨rfl, hw⟩
theorem sb_eq_iff (x : B) (k : Nat) (hk : k < 256) : sb (BitVec.ofNat 8 k) = x ↔ k = (bk x).toNat := by
  constructor
  · intro h
    rw [← h, bk_sb, BitVec.toNat_ofNat]; omega
  · intro h
    rw [h, BitVec.ofNat_toNat, BitVec.setWidth_eq, sb_bk]
end Go.Proofs.YtamieopjigjfiaaDoor

namespace Go.Proofs.YtamieopjigjfiaaDoor
set_option maxRecDepth 100000
open Go Go.RowKit Go.Sort
attribute [local go_sem] setCell_drewN alloc_drewN


/-! Lists turned place by place. -/
def pm (f g : Nat → B) (n k : Nat) : List B := (List.range n).map fun j => if j < k then f j else g j
theorem pm_len (f g : Nat → B) (n k : Nat) : (pm f g n k).length = n := by simp [pm]
theorem pm_get (f g : Nat → B) (n k : Nat) (h : k < n) : (pm f g n k).getD k 0#8 = g k := by
  simp [pm, List.getD_eq_getElem?_getD, h]
theorem pm_set (f g : Nat → B) (n k : Nat) (h : k < n) : (pm f g n k).set k (f k) = pm f g n (k + 1) := by
  apply List.ext_getElem?
  intro j
  rw [List.getElem?_set]
  by_cases e : k = j
  · subst e
    rw [if_pos rfl, if_pos (by rw [pm_len]; exact h)]
    simp [pm, h]
  · rw [if_neg e]
    simp only [pm, List.getElem?_map]
    by_cases hj : j < n
    · simp only [List.getElem?_range hj, Option.map_some]
      by_cases h1 : j < k
      · rw [if_pos h1, if_pos (by omega)]
      · rw [if_neg h1, if_neg (by omega)]
    · rw [List.getElem?_eq_none (by simp; omega)]; rfl
theorem pm_zero (f : Nat → B) (l : List B) (hl : l.length = 16) : pm f (gb l) 16 0 = l := by
  apply ext16 (pm_len _ _ _ _) hl
  intro i hi
  simp [pm, List.getD_eq_getElem?_getD, hi, gb]
theorem pm_full (m : List B) (g : Nat → B) (hm : m.length = 16) : pm (gb m) g 16 16 = m := by
  apply ext16 (pm_len _ _ _ _) hm
  intro i hi
  simp [pm, List.getD_eq_getElem?_getD, hi, gb]
theorem bR (cs : Array Value) (W : World) : (Instr.box 63 (.agg cs)).run Tryd.prog W = .ok (.pointer (some ⟨W.heap.size, 0, none⟩)) (W.alloc (.cells cs 63)) := by kernel_rfl
theorem zR (W : World) : (Instr.alloc 63 true (.tuple #[])).run Tryd.prog W = .ok (.pointer (some ⟨W.heap.size, 0, none⟩)) (W.alloc (.cells (irow .u8 (zr 16)) 63)) := by kernel_rfl
theorem b256 (cs : Array Value) (W : World) : (Instr.box 61 (.agg cs)).run Tryd.prog W = .ok (.pointer (some ⟨W.heap.size, 0, none⟩)) (W.alloc (.cells cs 61)) := by kernel_rfl
theorem infoR : (Tryd.prog.info? 63).map (·.size) = some 16 := by kernel_rfl

set_option maxRecDepth 100000 in
set_option maxHeartbeats 4000000 in
theorem r_xor (a b : List B) (ha : a.length = 16) (hb : b.length = 16) : Gives 67 #[.agg (irow .u8 (bl (a))), .agg (irow .u8 (bl (b)))] (.agg (irow .u8 (bl (xorL a b)))) := by
  intro w
  have R0 := hp3_0 w (.cells (irow .u8 (bl (pm (gb (xorL a b)) (gb a) 16 0))) 63) (.cells (irow .u8 (bl (b))) 63) (.cells (irow .u8 (zr 16)) 63)
  have R1 := hp3_1 w (.cells (irow .u8 (bl (pm (gb (xorL a b)) (gb a) 16 0))) 63) (.cells (irow .u8 (bl (b))) 63) (.cells (irow .u8 (zr 16)) 63)
  have R2 := hp3_2 w (.cells (irow .u8 (bl (pm (gb (xorL a b)) (gb a) 16 0))) 63) (.cells (irow .u8 (bl (b))) 63) (.cells (irow .u8 (zr 16)) 63)
  have hw : Below w.heap.size w (((w.alloc (.cells (irow .u8 (bl (pm (gb (xorL a b)) (gb a) 16 0))) 63)).alloc (.cells (irow .u8 (bl (b))) 63)).alloc (.cells (irow .u8 (zr 16)) 63)) := ((((Below.refl _ _).alloc (Nat.le_refl _) _).alloc (by simp) _).alloc (by simp; omega) _)

  rw [← pm_zero (gb (xorL a b)) a ha]
  go_enter Tryd.func67, Tryd.ntmps67
  go_wp2_with (first | (refine wpList_box rfl 63 _ rfl _ rfl (bR _) ?_) | (refine wpList_alloc rfl 63 rfl (irow .u8 (zr 16)) zR ?_) | fail)
  try simp only [size_alloc1, Act.put, List.setIfInBounds_toArray, List.set_cons_succ, List.set_cons_zero]
  generalize World.alloc _ _ = w0 at *
  rw [pm_zero (gb (xorL a b)) a ha]
  go_loopw [5] (fun i wr => ∃ k : Nat, k ≤ 16 ∧ i = .int .i64 k ∧ wr.heap[w.heap.size]? = some (.cells (irow .u8 (bl (pm (gb (xorL a b)) (gb a) 16 k))) 63 (0, 0)) ∧ wr.heap[w.heap.size + 1]? = some (.cells (irow .u8 (bl (b))) 63 (0, 0)) ∧ wr.heap[w.heap.size + 1 + 1]? = some (.cells (irow .u8 (zr 16)) 63 (0, 0)) ∧ Below w.heap.size w wr) (fun i _ => 16 - (intOf i).toNat)
  case atStart => exact ⟨0, by omega, rfl, R0, R1, R2, hw⟩
  case round =>
    clear R0 R1 R2 hw
    obtain ⟨k, hk, rfl, r0, r1, r2, hw⟩ := hrel
    by_cases hlt : k < 16
    · have hd : decide ((k : Int) < 16) = true := by simp; omega
      have c0 := brow_cell r0 (j := k) (by rw [pm_len]; omega)
      rw [pm_get _ _ _ _ hlt] at c0
      have c1 := brow_cell r1 (j := k) (by omega)
      rw [show b.getD k 0#8 = gb b k from rfl] at c1
      have hx := xor8 (gb a k) (gb b k)
      have hset := hide (pm_set (gb (xorL a b)) (gb a) 16 k hlt)
      rw [show gb (xorL a b) k = gb a k ^^^ gb b k from xorL_get a b hlt] at hset
      generalize gb a k = x0 at *
      generalize gb b k = x1 at *
      go_wp2_with (fail)
      have k0 : ∀ p : Regrown, (grow (redrawn wr p.d) p.os).cell? ⟨w.heap.size, k, none⟩ = some (.int .u8 (bv x0)) := fun p => cell_regrown (c0) p.d p.os
      have k1 : ∀ p : Regrown, (grow (redrawn wr p.d) p.os).cell? ⟨w.heap.size + 1, k, none⟩ = some (.int .u8 (bv x1)) := fun p => cell_regrown (c1) p.d p.os
      refine wp_region_tail (C := fun w' => ∃ p : Regrown, w' = grow (redrawn wr p.d) p.os) 9 _ rfl rfl rfl (by kernel_rfl) (by kernel_rfl) (by kernel_rfl) (by kernel_rfl) ⟨⟨wr.drawn + 1, #[]⟩, by rw [grow_empty]; rfl⟩ ?_
      dsimp only [List.set, idle]
      go_big_quiet_step (fail)
      go_big_quiet_step (fail)
      go_big_quiet_step (fail)
      go_big_quiet_step (fail)
      go_big_quiet_step (fail)
      go_big_quiet_step (fail)
      go_big_quiet_step (fail)
      go_big_quiet_step (fail)
      go_big_quiet_step (fail)
      refine wpQuiet_idle rfl rfl rfl ?_
      rintro _ ⟨p, rfl⟩
      have hb := below_regrown wr p.d p.os
      generalize grow (redrawn wr p.d) p.os = w1 at *
      clear k0 k1
      replace r0 := keep hb r0
      replace r1 := keep hb r1
      replace r2 := keep hb r2
      replace hw := Below.after hw hb
      clear hb

      have cw := brow_cell r0 (j := k) (by rw [pm_len]; omega)
      have hf := row_frozen r0 k
      clear c0 c1
      go_wp2
      refine ⟨⟨k + 1, by omega, by go_num, by rw [← hset.out]; exact brow_set r0 k _, heap_other r1 (by omega), heap_other r2 (by omega), hw.setCell (Nat.le_refl _) _⟩, by simp [intOf]; omega⟩
    · obtain rfl : k = 16 := by omega
      have hd : decide ((16 : Int) < 16) = false := by decide
      rw [pm_full _ _ (xorL_len _ _)] at r0
      clear hk hlt
      have hi9 := info_bl infoR (xorL a b) (xorL_len _ _)
      have hfi : (irow .u8 (zr 16)).size = (irow .u8 (bl (xorL a b))).size := by rw [irow_size, irow_size, bl_len, xorL_len, zr_len]
      go_wp2_with (first | (refine wpList_load_want rfl 63 _ rfl (w.heap.size) rfl 63 (irow .u8 (bl (xorL a b))) (0, 0) _ r0 Tryd.underlying63 rfl hi9 ?_) | (refine wpList_store_row rfl 63 _ _ rfl (w.heap.size + 1 + 1) (irow .u8 (bl (xorL a b))) rfl rfl 63 _ r2 hi9 hfi (irow_one _ _) ?_) | fail)
      replace r2 := setRow_heap wr (w.heap.size + 1 + 1) _ (irow .u8 (bl (xorL a b))) _ _ r2
      replace hw := below_setRow hw (show w.heap.size ≤ w.heap.size + 1 + 1 by omega) (irow .u8 (bl (xorL a b)))
      generalize wr.setRow (w.heap.size + 1 + 1) (irow .u8 (bl (xorL a b))) = w9 at *
      exact bodyPost_ret (v := .agg (irow .u8 (bl (xorL a b)))) (results_cell_row Tryd.results67 _ _ (w.heap.size + 1 + 1) _ _ _ _ rfl r2 Tryd.underlying63 rfl hi9) rfl ⟨rfl, hw⟩


set_option maxRecDepth 100000 in
set_option maxHeartbeats 4000000 in
theorem r_subShift (l : List B) (hl : l.length = 16) : Gives 69 #[.agg (irow .u8 (bl (sbl))), .agg (irow .u8 (bl (l)))] (.agg (irow .u8 (bl (shiftL (subL l))))) := by
  intro w
  have hz : ∀ W : World, (Instr.alloc 63 true (.tuple #[])).run Tryd.prog W = .ok (.pointer (some ⟨W.heap.size, 0, none⟩)) (W.alloc (.cells (irow .u8 (bl (pt (gb (shiftL (subL l))) 16 (0)))) 63)) := by rw [← zr_pt]; exact zR
  have R0 := hp4_0 w (.cells (irow .u8 (bl (sbl))) 61) (.cells (irow .u8 (bl (l))) 63) (.cells (irow .u8 (bl (pt (gb (shiftL (subL l))) 16 0))) 63) (.cells (irow .u8 (bl (pt (gb (shiftL (subL l))) 16 0))) 63)
  have R1 := hp4_1 w (.cells (irow .u8 (bl (sbl))) 61) (.cells (irow .u8 (bl (l))) 63) (.cells (irow .u8 (bl (pt (gb (shiftL (subL l))) 16 0))) 63) (.cells (irow .u8 (bl (pt (gb (shiftL (subL l))) 16 0))) 63)
  have R2 := hp4_2 w (.cells (irow .u8 (bl (sbl))) 61) (.cells (irow .u8 (bl (l))) 63) (.cells (irow .u8 (bl (pt (gb (shiftL (subL l))) 16 0))) 63) (.cells (irow .u8 (bl (pt (gb (shiftL (subL l))) 16 0))) 63)
  have R3 := hp4_3 w (.cells (irow .u8 (bl (sbl))) 61) (.cells (irow .u8 (bl (l))) 63) (.cells (irow .u8 (bl (pt (gb (shiftL (subL l))) 16 0))) 63) (.cells (irow .u8 (bl (pt (gb (shiftL (subL l))) 16 0))) 63)
  have hw : Below w.heap.size w ((((w.alloc (.cells (irow .u8 (bl (sbl))) 61)).alloc (.cells (irow .u8 (bl (l))) 63)).alloc (.cells (irow .u8 (bl (pt (gb (shiftL (subL l))) 16 0))) 63)).alloc (.cells (irow .u8 (bl (pt (gb (shiftL (subL l))) 16 0))) 63)) := (((((Below.refl _ _).alloc (Nat.le_refl _) _).alloc (by simp) _).alloc (by simp; omega) _).alloc (by simp; omega) _)

  go_enter Tryd.func69, Tryd.ntmps69
  go_wp2_with (first | (refine wpList_box rfl 61 _ rfl _ rfl (b256 _) ?_) | (refine wpList_box rfl 63 _ rfl _ rfl (bR _) ?_) | (refine wpList_alloc rfl 63 rfl (irow .u8 (bl (pt (gb (shiftL (subL l))) 16 (0)))) hz ?_) | fail)
  try simp only [size_alloc1, Act.put, List.setIfInBounds_toArray, List.set_cons_succ, List.set_cons_zero]
  clear hz
  generalize World.alloc _ _ = w0 at *
  go_loopw [6] (fun i wr => ∃ c : Nat, c ≤ 4 ∧ i = .int .i64 c ∧ wr.heap[w.heap.size]? = some (.cells (irow .u8 (bl (sbl))) 61 (0, 0)) ∧ wr.heap[w.heap.size + 1]? = some (.cells (irow .u8 (bl (l))) 63 (0, 0)) ∧ wr.heap[w.heap.size + 1 + 1]? = some (.cells (irow .u8 (bl (pt (gb (shiftL (subL l))) 16 (0)))) 63 (0, 0)) ∧ wr.heap[w.heap.size + 1 + 1 + 1]? = some (.cells (irow .u8 (bl (pt (gb (shiftL (subL l))) 16 (4 * c)))) 63 (0, 0)) ∧ Below w.heap.size w wr) (fun i _ => 4 - (intOf i).toNat)
  case atStart => exact ⟨0, by omega, rfl, R0, R1, R2, R3, hw⟩
  case round =>
    clear R0 R1 R2 R3 hw
    obtain ⟨c, hc, rfl, r0, r1, r2, r3, hw⟩ := hrel
    by_cases hlc : c < 4
    · have hd : decide ((c : Int) < 4) = true := by simp; omega
      go_wp2_with (fail)
      go_loopw [7] (fun i wr => ∃ k : Nat, k ≤ 4 ∧ i = .int .i64 k ∧ wr.heap[w.heap.size]? = some (.cells (irow .u8 (bl (sbl))) 61 (0, 0)) ∧ wr.heap[w.heap.size + 1]? = some (.cells (irow .u8 (bl (l))) 63 (0, 0)) ∧ wr.heap[w.heap.size + 1 + 1]? = some (.cells (irow .u8 (bl (pt (gb (shiftL (subL l))) 16 (0)))) 63 (0, 0)) ∧ wr.heap[w.heap.size + 1 + 1 + 1]? = some (.cells (irow .u8 (bl (pt (gb (shiftL (subL l))) 16 (4 * c + k)))) 63 (0, 0)) ∧ Below w.heap.size w wr) (fun i _ => 4 - (intOf i).toNat)
      case atStart => exact ⟨0, by omega, rfl, r0, r1, r2, r3, hw⟩
      case round =>
        clear r0 r1 r2 r3 hw
        obtain ⟨k, hk, rfl, r0, r1, r2, r3, hw⟩ := hrel
        by_cases hlt : k < 4
        · have hd : decide ((k : Int) < 4) = true := by simp; omega
          have hr : ((c : Int) + (k : Int)).tmod 4 = (((c + k) % 4 : Nat) : Int) := by rw [Int.tmod_eq_emod_of_nonneg (by omega)]; rfl
          have c1 := brow_cell r1 (j := k + 4 * ((c + k) % 4)) (by omega)
          have hfv : gb (shiftL (subL l)) (4 * c + k) = sb (l.getD (k + 4 * ((c + k) % 4)) 0#8) := by
            rw [gb, shiftL_get _ (by omega), subL_get _ (by omega), show (4 * c + k) % 4 = k by omega, show (4 * c + k) / 4 = c by omega]
          have c2 := brow_cell r0 (j := (l.getD (k + 4 * ((c + k) % 4)) 0#8).toNat) (by rw [sbl_len]; exact (l.getD (k + 4 * ((c + k) % 4)) 0#8).isLt)
          rw [sbl_get, ← hfv] at c2
          have hset := hide (pt_set (gb (shiftL (subL l))) 16 (4 * c + k) (by omega))
          have n1 := bv_nat (l.getD (k + 4 * ((c + k) % 4)) 0#8)
          have b1 := bnd (l.getD (k + 4 * ((c + k) % 4)) 0#8)
          clear hfv
          generalize l.getD (k + 4 * ((c + k) % 4)) 0#8 = x1 at *
          generalize gb (shiftL (subL l)) (4 * c + k) = x2 at *
          have cw := brow_cell r3 (j := 4 * c + k) (by rw [pt_len]; omega)
          have hf := row_frozen r3 (4 * c + k)
          have hcm : k + 4 * c = 4 * c + k := by omega
          go_wp2
          refine ⟨⟨k + 1, by omega, by go_num, heap_other r0 (by omega), heap_other r1 (by omega), heap_other r2 (by omega), by rw [← Nat.add_assoc, ← hset.out]; exact brow_set r3 (4 * c + k) x2, hw.setCell (show w.heap.size ≤ w.heap.size + 1 + 1 + 1 by omega) _⟩, by simp [intOf]; omega⟩
        · obtain rfl : k = 4 := by omega
          have hd : decide ((4 : Int) < 4) = false := by decide
          go_wp2
          refine ⟨⟨c + 1, by omega, by go_num, r0, r1, r2, r3, hw⟩, by simp [intOf]; omega⟩
    · obtain rfl : c = 4 := by omega
      have hd : decide ((4 : Int) < 4) = false := by decide
      rw [show pt (gb (shiftL (subL l))) 16 (4 * 4) = shiftL (subL l) from pt_self _ (shiftL_len _)] at r3
      clear hc hlc
      have hi9 := info_bl infoR (shiftL (subL l)) (shiftL_len _)
      have hfi : (irow .u8 (bl (pt (gb (shiftL (subL l))) 16 (0)))).size = (irow .u8 (bl (shiftL (subL l)))).size := by rw [irow_size, irow_size, bl_len, bl_len, shiftL_len, pt_len]
      go_wp2_with (first | (refine wpList_load_want rfl 63 _ rfl (w.heap.size + 1 + 1 + 1) rfl 63 (irow .u8 (bl (shiftL (subL l)))) (0, 0) _ r3 Tryd.underlying63 rfl hi9 ?_) | (refine wpList_store_row rfl 63 _ _ rfl (w.heap.size + 1 + 1) (irow .u8 (bl (shiftL (subL l)))) rfl rfl 63 _ r2 hi9 hfi (irow_one _ _) ?_) | fail)
      replace r2 := setRow_heap wr (w.heap.size + 1 + 1) _ (irow .u8 (bl (shiftL (subL l)))) _ _ r2
      replace hw := below_setRow hw (show w.heap.size ≤ w.heap.size + 1 + 1 by omega) (irow .u8 (bl (shiftL (subL l))))
      generalize wr.setRow (w.heap.size + 1 + 1) (irow .u8 (bl (shiftL (subL l)))) = w9 at *
      exact bodyPost_ret (v := .agg (irow .u8 (bl (shiftL (subL l))))) (results_cell_row Tryd.results69 _ _ (w.heap.size + 1 + 1) _ _ _ _ rfl r2 Tryd.underlying63 rfl hi9) rfl ⟨rfl, hw⟩


set_option maxRecDepth 100000 in
set_option maxHeartbeats 4000000 in
theorem r_mix (l : List B) (hl : l.length = 16) : Gives 68 #[.agg (irow .u8 (bl (l)))] (.agg (irow .u8 (bl (mixL l)))) := by
  intro w
  have hz : ∀ W : World, (Instr.alloc 63 true (.tuple #[])).run Tryd.prog W = .ok (.pointer (some ⟨W.heap.size, 0, none⟩)) (W.alloc (.cells (irow .u8 (bl (pt (gb (mixL l)) 16 (0)))) 63)) := by rw [← zr_pt]; exact zR
  have R0 := hp3_0 w (.cells (irow .u8 (bl (l))) 63) (.cells (irow .u8 (bl (pt (gb (mixL l)) 16 (0)))) 63) (.cells (irow .u8 (bl (pt (gb (mixL l)) 16 (0)))) 63)
  have R1 := hp3_1 w (.cells (irow .u8 (bl (l))) 63) (.cells (irow .u8 (bl (pt (gb (mixL l)) 16 (0)))) 63) (.cells (irow .u8 (bl (pt (gb (mixL l)) 16 (0)))) 63)
  have R2 := hp3_2 w (.cells (irow .u8 (bl (l))) 63) (.cells (irow .u8 (bl (pt (gb (mixL l)) 16 (0)))) 63) (.cells (irow .u8 (bl (pt (gb (mixL l)) 16 (0)))) 63)
  have hw : Below w.heap.size w (((w.alloc (.cells (irow .u8 (bl (l))) 63)).alloc (.cells (irow .u8 (bl (pt (gb (mixL l)) 16 (0)))) 63)).alloc (.cells (irow .u8 (bl (pt (gb (mixL l)) 16 (0)))) 63)) := ((((Below.refl _ _).alloc (Nat.le_refl _) _).alloc (by simp) _).alloc (by simp; omega) _)

  go_enter Tryd.func68, Tryd.ntmps68
  go_wp2_with (first | (refine wpList_box rfl 63 _ rfl _ rfl (bR _) ?_) | (refine wpList_alloc rfl 63 rfl (irow .u8 (bl (pt (gb (mixL l)) 16 (0)))) hz ?_) | fail)
  try simp only [size_alloc1, Act.put, List.setIfInBounds_toArray, List.set_cons_succ, List.set_cons_zero]
  clear hz
  generalize World.alloc _ _ = w0 at *
  go_loopw [4] (fun i wr => ∃ c : Nat, c ≤ 4 ∧ i = .int .i64 c ∧ wr.heap[w.heap.size]? = some (.cells (irow .u8 (bl (l))) 63 (0, 0)) ∧ wr.heap[w.heap.size + 1]? = some (.cells (irow .u8 (bl (pt (gb (mixL l)) 16 (0)))) 63 (0, 0)) ∧ wr.heap[w.heap.size + 1 + 1]? = some (.cells (irow .u8 (bl (pt (gb (mixL l)) 16 (4 * c)))) 63 (0, 0)) ∧ Below w.heap.size w wr) (fun i _ => 4 - (intOf i).toNat)
  case atStart => exact ⟨0, by omega, rfl, R0, R1, R2, hw⟩
  case round =>
    clear R0 R1 R2 hw
    obtain ⟨c, hc, rfl, r0, r1, r2, hw⟩ := hrel
    by_cases hlc : c < 4
    · have hd : decide ((c : Int) < 4) = true := by simp; omega
      go_wp2_with (fail)
      go_loopw [5] (fun i wr => ∃ k : Nat, k ≤ 4 ∧ i = .int .i64 k ∧ wr.heap[w.heap.size]? = some (.cells (irow .u8 (bl (l))) 63 (0, 0)) ∧ wr.heap[w.heap.size + 1]? = some (.cells (irow .u8 (bl (pt (gb (mixL l)) 16 (0)))) 63 (0, 0)) ∧ wr.heap[w.heap.size + 1 + 1]? = some (.cells (irow .u8 (bl (pt (gb (mixL l)) 16 (4 * c + k)))) 63 (0, 0)) ∧ Below w.heap.size w wr) (fun i _ => 4 - (intOf i).toNat)
      case atStart => exact ⟨0, by omega, rfl, r0, r1, r2, hw⟩
      case round =>
        clear r0 r1 r2 hw
        obtain ⟨k, hk, rfl, r0, r1, r2, hw⟩ := hrel
        by_cases hlt : k < 4
        · have hd : decide ((k : Int) < 4) = true := by simp; omega
          have hr1 : ((k : Int) + 1).tmod 4 = (((k + 1) % 4 : Nat) : Int) := by rw [Int.tmod_eq_emod_of_nonneg (by omega)]; rfl
          have hr2 : ((k : Int) + 2).tmod 4 = (((k + 2) % 4 : Nat) : Int) := by rw [Int.tmod_eq_emod_of_nonneg (by omega)]; rfl
          have hr3 : ((k : Int) + 3).tmod 4 = (((k + 3) % 4 : Nat) : Int) := by rw [Int.tmod_eq_emod_of_nonneg (by omega)]; rfl
          have hfv : gb (mixL l) (4 * c + k) = dbl (l.getD (4 * c + k) 0#8) ^^^ dbl (l.getD (4 * c + (k + 1) % 4) 0#8) ^^^ l.getD (4 * c + (k + 1) % 4) 0#8 ^^^ l.getD (4 * c + (k + 2) % 4) 0#8 ^^^ l.getD (4 * c + (k + 3) % 4) 0#8 := by
            have h1 : gb (mixL l) (4 * c + k) = mg (mixL l) c k := by unfold gb mg; rw [Nat.mod_eq_of_lt hlt]
            rw [h1, mg_mix _ _ _ hlc]
            unfold mg
            rw [Nat.mod_eq_of_lt hlt]
          have q0 := brow_cell r0 (j := 4 * c + k) (by omega)
          have q1 := brow_cell r0 (j := 4 * c + (k + 1) % 4) (by omega)
          have q2 := brow_cell r0 (j := 4 * c + (k + 2) % 4) (by omega)
          have q3 := brow_cell r0 (j := 4 * c + (k + 3) % 4) (by omega)
          have hset := hide (pt_set (gb (mixL l)) 16 (4 * c + k) (by omega))
          rw [hfv] at hset
          clear hfv
          have hq2 : Hid (∀ W : World, W.heap[w.heap.size]? = some (.cells (irow .u8 (bl (l))) 63 (0, 0)) → W.cell? ⟨w.heap.size, 4 * c + (k + 2) % 4, none⟩ = some (.int .u8 (bv (l.getD (4 * c + (k + 2) % 4) 0#8)))) := hide (fun W h => brow_cell h (by omega))
          have hq3 : Hid (∀ W : World, W.heap[w.heap.size]? = some (.cells (irow .u8 (bl (l))) 63 (0, 0)) → W.cell? ⟨w.heap.size, 4 * c + (k + 3) % 4, none⟩ = some (.int .u8 (bv (l.getD (4 * c + (k + 3) % 4) 0#8)))) := hide (fun W h => brow_cell h (by omega))
          generalize l.getD (4 * c + k) 0#8 = x0 at *
          generalize l.getD (4 * c + (k + 1) % 4) 0#8 = x1 at *
          generalize l.getD (4 * c + (k + 2) % 4) 0#8 = x2 at *
          generalize l.getD (4 * c + (k + 3) % 4) 0#8 = x3 at *
          have d0 := r_double x0
          have d1 := r_double x1
          have e1 := xor8 (dbl x0) (dbl x1)
          have e2 := xor8 (dbl x0 ^^^ dbl x1) x1
          have e3 := xor8 (dbl x0 ^^^ dbl x1 ^^^ x1) x2
          have e4 := xor8 (dbl x0 ^^^ dbl x1 ^^^ x1 ^^^ x2) x3
          generalize dbl x0 ^^^ dbl x1 ^^^ x1 ^^^ x2 ^^^ x3 = y4 at *
          generalize dbl x0 ^^^ dbl x1 ^^^ x1 ^^^ x2 = y3 at *
          generalize dbl x0 ^^^ dbl x1 ^^^ x1 = y2 at *
          generalize dbl x0 ^^^ dbl x1 = y1 at *
          go_wp2_with (fail)
          have k0 : ∀ p : Regrown, (grow (redrawn wr p.d) p.os).cell? ⟨w.heap.size, 4 * c + k, none⟩ = some (.int .u8 (bv x0)) := fun p => cell_regrown (q0) p.d p.os
          have k1 : ∀ p : Regrown, (grow (redrawn wr p.d) p.os).cell? ⟨w.heap.size, 4 * c + (k + 1) % 4, none⟩ = some (.int .u8 (bv x1)) := fun p => cell_regrown (q1) p.d p.os
          refine wp_region_quiet_below (by kernel_rfl) (by kernel_rfl) ?_
          go_big_quiet_step (fail)
          go_big_quiet_step (fail)
          go_big_quiet_step (fail)
          go_big_quiet_step (fail)
          go_big_quiet_step (fail)
          go_big_quiet_step (fail)
          go_big_quiet_step (fail)
          go_big_quiet_step (fail)
          go_big_quiet_step (fail)
          go_big_quiet_step (fail)
          go_big_quiet_step (fail)
          go_big_quiet_step (fail)
          go_big_quiet_step (fail)
          go_big_quiet_step (fail)
          go_big_quiet_step (fail)
          go_big_quiet_step (fail)
          refine wpQuiet_nil ?_
          rintro _ ⟨p, rfl⟩
          have hb := below_regrown wr p.d p.os
          generalize grow (redrawn wr p.d) p.os = w1 at *
          clear k0 k1
          replace r0 := keep hb r0
          replace r1 := keep hb r1
          replace r2 := keep hb r2
          replace hw := Below.after hw hb
          clear hb

          have q4 : w1.cell? ⟨w.heap.size, 4 * c + (k + 2) % 4, none⟩ = some (.int .u8 (bv x2)) := hq2.out w1 r0
          have q5 : w1.cell? ⟨w.heap.size, 4 * c + (k + 3) % 4, none⟩ = some (.int .u8 (bv x3)) := hq3.out w1 r0
          clear q0 q1 q2 q3
          go_wp2_with (fail)
          have k2 : ∀ p : Regrown, (grow (redrawn w1 p.d) p.os).cell? ⟨w.heap.size, 4 * c + (k + 2) % 4, none⟩ = some (.int .u8 (bv x2)) := fun p => cell_regrown (q4) p.d p.os
          have k3 : ∀ p : Regrown, (grow (redrawn w1 p.d) p.os).cell? ⟨w.heap.size, 4 * c + (k + 3) % 4, none⟩ = some (.int .u8 (bv x3)) := fun p => cell_regrown (q5) p.d p.os
          refine wp_region_tail (C := fun w' => ∃ p : Regrown, w' = grow (redrawn w1 p.d) p.os) 30 _ rfl rfl rfl (by kernel_rfl) (by kernel_rfl) (by kernel_rfl) (by kernel_rfl) ⟨⟨w1.drawn + 1, #[]⟩, by rw [grow_empty]; rfl⟩ ?_
          dsimp only [List.set, idle]
          go_big_quiet_step (fail)
          go_big_quiet_step (fail)
          go_big_quiet_step (fail)
          go_big_quiet_step (fail)
          go_big_quiet_step (fail)
          go_big_quiet_step (exact d0.re)
          go_big_quiet_step (fail)
          go_big_quiet_step (exact d1.re)
          go_big_quiet_step (fail)
          go_big_quiet_step (fail)
          go_big_quiet_step (fail)
          go_big_quiet_step (fail)
          go_big_quiet_step (fail)
          go_big_quiet_step (fail)
          go_big_quiet_step (fail)
          go_big_quiet_step (fail)
          go_big_quiet_step (fail)
          go_big_quiet_step (fail)
          go_big_quiet_step (fail)
          go_big_quiet_step (fail)
          go_big_quiet_step (fail)
          go_big_quiet_step (fail)
          go_big_quiet_step (fail)
          go_big_quiet_step (fail)
          go_big_quiet_step (fail)
          go_big_quiet_step (fail)
          go_big_quiet_step (fail)
          go_big_quiet_step (fail)
          go_big_quiet_step (fail)
          go_big_quiet_step (fail)
          refine wpQuiet_idle rfl rfl rfl ?_
          rintro _ ⟨p, rfl⟩
          have hb := below_regrown w1 p.d p.os
          generalize grow (redrawn w1 p.d) p.os = w2 at *
          clear k2 k3
          replace r0 := keep hb r0
          replace r1 := keep hb r1
          replace r2 := keep hb r2
          replace hw := Below.after hw hb
          clear hb

          have cw := brow_cell r2 (j := 4 * c + k) (by rw [pt_len]; omega)
          have hf := row_frozen r2 (4 * c + k)
          clear q4 q5 hq2 hq3
          go_wp2
          refine ⟨⟨k + 1, by omega, by go_num, heap_other r0 (by omega), heap_other r1 (by omega), by rw [← Nat.add_assoc, ← hset.out]; exact brow_set r2 (4 * c + k) _, hw.setCell (show w.heap.size ≤ w.heap.size + 1 + 1 by omega) _⟩, by simp [intOf]; omega⟩
        · obtain rfl : k = 4 := by omega
          have hd : decide ((4 : Int) < 4) = false := by decide
          go_wp2
          refine ⟨⟨c + 1, by omega, by go_num, r0, r1, r2, hw⟩, by simp [intOf]; omega⟩
    · obtain rfl : c = 4 := by omega
      have hd : decide ((4 : Int) < 4) = false := by decide
      rw [show pt (gb (mixL l)) 16 (4 * 4) = mixL l from pt_self _ (mix_len _)] at r2
      clear hc hlc
      have hi9 := info_bl infoR (mixL l) (mix_len _)
      have hfi : (irow .u8 (bl (pt (gb (mixL l)) 16 (0)))).size = (irow .u8 (bl (mixL l))).size := by rw [irow_size, irow_size, bl_len, bl_len, mix_len, pt_len]
      go_wp2_with (first | (refine wpList_load_want rfl 63 _ rfl (w.heap.size + 1 + 1) rfl 63 (irow .u8 (bl (mixL l))) (0, 0) _ r2 Tryd.underlying63 rfl hi9 ?_) | (refine wpList_store_row rfl 63 _ _ rfl (w.heap.size + 1) (irow .u8 (bl (mixL l))) rfl rfl 63 _ r1 hi9 hfi (irow_one _ _) ?_) | fail)
      replace r1 := setRow_heap wr (w.heap.size + 1) _ (irow .u8 (bl (mixL l))) _ _ r1
      replace hw := below_setRow hw (show w.heap.size ≤ w.heap.size + 1 by omega) (irow .u8 (bl (mixL l)))
      generalize wr.setRow (w.heap.size + 1) (irow .u8 (bl (mixL l))) = w9 at *
      exact bodyPost_ret (v := .agg (irow .u8 (bl (mixL l)))) (results_cell_row Tryd.results68 _ _ (w.heap.size + 1) _ _ _ _ rfl r1 Tryd.underlying63 rfl hi9) rfl ⟨rfl, hw⟩


end Go.Proofs.YtamieopjigjfiaaDoor


namespace Go.Proofs.YtamieopjigjfiaaDoor
set_option maxRecDepth 100000
open Go Go.RowKit Go.Sort
attribute [local go_sem] setCell_drewN alloc_drewN


/-- The last k bytes counted on. -/
def cpt (l : List B) (n k : Nat) : List B := mk16 fun i => if 16 ≤ i + k then ctb l n i else gb l i
theorem cpt_len (l : List B) (n k : Nat) : (cpt l n k).length = 16 := mk16_len _
theorem cpt_zero (l : List B) (n : Nat) (hl : l.length = 16) : cpt l n 0 = l := by
  apply ext16 (cpt_len _ _ _) hl
  intro i hi
  rw [cpt, mk16_get _ hi, if_neg (by omega)]; rfl
theorem cpt_full (l : List B) (n : Nat) : cpt l n 16 = ctr l n := by
  apply ext16 (cpt_len _ _ _) (ctr_len _ _)
  intro i hi
  rw [cpt, mk16_get _ hi, if_pos (by omega), ctr, mk16_get _ hi]
theorem cpt_get (l : List B) (n k : Nat) (h : k < 16) : (cpt l n k).getD (15 - k) 0#8 = gb l (15 - k) := by
  rw [cpt, mk16_get _ (by omega), if_neg (by omega)]
theorem cpt_set (l : List B) (n k : Nat) (h : k < 16) : (cpt l n k).set (15 - k) (ctb l n (15 - k)) = cpt l n (k + 1) := by
  apply ext16 (by rw [List.length_set, cpt_len]) (cpt_len _ _ _)
  intro i hi
  rw [List.getD_eq_getElem?_getD, List.getElem?_set]
  by_cases e : 15 - k = i
  · rw [if_pos e, if_pos (by rw [cpt_len]; omega), cpt, mk16_get _ hi, if_pos (by omega), e]; rfl
  · rw [if_neg e, ← List.getD_eq_getElem?_getD, cpt, mk16_get _ hi, cpt, mk16_get _ hi]
    by_cases g : 16 ≤ i + k
    · rw [if_pos g, if_pos (by omega)]
    · rw [if_neg g, if_neg (by omega)]
theorem cr_stay (l : List B) (n k : Nat) (h : cr l n k = 0) : ∀ j, cr l n (k + j) = 0 := by
  intro j
  induction j with
  | zero => exact h
  | succ j ih =>
    rw [← Nat.add_assoc, cr, ih]
    have := (gb l (15 - (k + j))).isLt
    omega
/-- Where nothing is carried any more the other bytes stay. -/
theorem cpt_done (l : List B) (n k : Nat) (h : cr l n k = 0) (_hk : k ≤ 16) : cpt l n k = ctr l n := by
  apply ext16 (cpt_len _ _ _) (ctr_len _ _)
  intro i hi
  rw [cpt, mk16_get _ hi, ctr, mk16_get _ hi]
  by_cases g : 16 ≤ i + k
  · rw [if_pos g]
  · rw [if_neg g, ctb]
    have := cr_stay l n k h (15 - i - k)
    rw [show k + (15 - i - k) = 15 - i by omega] at this
    rw [this, Nat.zero_add, BitVec.ofNat_toNat, BitVec.setWidth_eq]
theorem cr_lt (l : List B) (n : Nat) (hn : n < 1152921504606846976) (k : Nat) : cr l n k < 1152921504606846976 := by
  induction k with
  | zero => exact hn
  | succ k ih =>
    rw [cr]
    have := (gb l (15 - k)).isLt
    omega
theorem bv_ctb (l : List B) (n k : Nat) (_hk : k < 16) : ((cr l n k : Int) + bv (gb l (15 - k))) % 256 = bv (ctb l n (15 - k)) := by
  unfold bv ctb
  rw [BitVec.toNat_ofNat, show 15 - (15 - k) = k by omega]
  omega
theorem bv_crn (l : List B) (n k : Nat) : ((cr l n k : Int) + bv (gb l (15 - k))) / 256 = ((cr l n (k + 1) : Nat) : Int) := by
  unfold bv
  rw [cr]
  omega

set_option maxRecDepth 100000 in
set_option maxHeartbeats 4000000 in
theorem a_further (l : List B) (hl : l.length = 16) (n : Nat) (hn : n < 1152921504606846976) : Gives 34 #[.agg (irow .u8 (bl (l))), .int .u64 (n : Int)] (.agg (irow .u8 (bl (ctr l n)))) := by
  intro w
  have R0 := hp2_0 w (.cells (irow .u8 (bl (l))) 53) (.cells (irow .u8 (zr 16)) 53)
  have R1 := hp2_1 w (.cells (irow .u8 (bl (l))) 53) (.cells (irow .u8 (zr 16)) 53)
  have hw : Below w.heap.size w ((w.alloc (.cells (irow .u8 (bl (l))) 53)).alloc (.cells (irow .u8 (zr 16)) 53)) := (((Below.refl _ _).alloc (Nat.le_refl _) _).alloc (by simp) _)

  go_enter Tryd.func34, Tryd.ntmps34
  go_wp2_with (first | (refine wpList_box rfl 53 _ rfl _ rfl (bBl _) ?_) | (refine wpList_alloc rfl 53 rfl (irow .u8 (zr 16)) zBl ?_) | fail)
  try simp only [size_alloc1, Act.put, List.setIfInBounds_toArray, List.set_cons_succ, List.set_cons_zero]
  generalize World.alloc _ _ = w0 at *
  go_loopw [1, 5] (fun m i wr => ∃ k : Nat, k ≤ 16 ∧ i = .int .i64 (15 - (k : Int)) ∧ m = .int .u64 ((cr l n k : Nat) : Int) ∧ wr.heap[w.heap.size]? = some (.cells (irow .u8 (bl (cpt l n k))) 53 (0, 0)) ∧ wr.heap[w.heap.size + 1]? = some (.cells (irow .u8 (zr 16)) 53 (0, 0)) ∧ Below w.heap.size w wr) (fun _ i _ => (intOf i + 1).toNat)
  case atStart => exact ⟨0, by omega, rfl, rfl, by rw [cpt_zero l n hl]; exact R0, R1, hw⟩
  case round =>
    clear R0 R1 hw
    obtain ⟨k, hk, rfl, rfl, r0, r1, hw⟩ := hrel
    have hcl := cr_lt l n hn k
    by_cases hlt : k < 16
    · have hd : decide (15 - (k : Int) ≥ 0) = true := by simp; omega
      by_cases h0 : cr l n k = 0
      · rw [cpt_done l n k h0 hk] at r0
        have hd2 : decide (((cr l n k : Nat) : Int) > 0) = false := by simp; omega
        rw [h0]
        clear hcl h0 hd2
        have hd2 : decide (((0 : Nat) : Int) > 0) = false := by decide
        have hi9 := info_bl infoB (ctr l n) (ctr_len _ _)
        have hfi : (irow .u8 (zr 16)).size = (irow .u8 (bl (ctr l n))).size := by rw [irow_size, irow_size, zr_len, bl_len, ctr_len]
        go_wp2_with (first | (refine wpList_load_want rfl 53 _ rfl (w.heap.size) rfl 53 (irow .u8 (bl (ctr l n))) (0, 0) _ r0 Tryd.underlying53 rfl hi9 ?_) | (refine wpList_store_row rfl 53 _ _ rfl (w.heap.size + 1) (irow .u8 (bl (ctr l n))) rfl rfl 53 _ r1 hi9 hfi (irow_one _ _) ?_) | fail)
        replace r1 := setRow_heap wr (w.heap.size + 1) _ (irow .u8 (bl (ctr l n))) _ _ r1
        replace hw := below_setRow hw (show w.heap.size ≤ w.heap.size + 1 by omega) (irow .u8 (bl (ctr l n)))
        generalize wr.setRow (w.heap.size + 1) (irow .u8 (bl (ctr l n))) = w9 at *
        exact bodyPost_ret (v := .agg (irow .u8 (bl (ctr l n)))) (results_cell_row Tryd.results34 _ _ (w.heap.size + 1) _ _ _ _ rfl r1 Tryd.underlying53 rfl hi9) rfl ⟨rfl, hw⟩

      · have hd2 : decide (((cr l n k : Nat) : Int) > 0) = true := by simp; omega
        have hto : (15 - (k : Int)).toNat = 15 - k := by omega
        have c0 := brow_cell r0 (j := 15 - k) (by rw [cpt_len]; omega)
        rw [cpt_get l n k hlt] at c0
        have e1 := bv_ctb l n k hlt
        have e2 := bv_crn l n k
        have b0 := bnd (gb l (15 - k))
        have hset := hide (cpt_set l n k hlt)
        have hf := row_frozen r0 (15 - k)
        have hbd : 0 ≤ 15 - (k : Int) ∧ 15 - (k : Int) < 16 := by omega
        generalize hN : cr l n (k + 1) = N1 at *
        replace hN := hide hN
        generalize ctb l n (15 - k) = x1 at *
        generalize gb l (15 - k) = x0 at *
        generalize cr l n k = N0 at *
        go_wp2
        refine ⟨⟨k + 1, by omega, by congr 1; omega, by rw [hN.out], by rw [← hset.out]; exact brow_set r0 (15 - k) x1, heap_other r1 (by omega), hw.setCell (Nat.le_refl _) _⟩, by simp [intOf]; omega⟩
    · obtain rfl : k = 16 := by omega
      have hd : decide (15 - ((16 : Nat) : Int) ≥ 0) = false := by decide
      rw [cpt_full] at r0
      generalize cr l n 16 = N0 at *
      clear hk hlt
      have hi9 := info_bl infoB (ctr l n) (ctr_len _ _)
      have hfi : (irow .u8 (zr 16)).size = (irow .u8 (bl (ctr l n))).size := by rw [irow_size, irow_size, zr_len, bl_len, ctr_len]
      go_wp2_with (first | (refine wpList_load_want rfl 53 _ rfl (w.heap.size) rfl 53 (irow .u8 (bl (ctr l n))) (0, 0) _ r0 Tryd.underlying53 rfl hi9 ?_) | (refine wpList_store_row rfl 53 _ _ rfl (w.heap.size + 1) (irow .u8 (bl (ctr l n))) rfl rfl 53 _ r1 hi9 hfi (irow_one _ _) ?_) | fail)
      replace r1 := setRow_heap wr (w.heap.size + 1) _ (irow .u8 (bl (ctr l n))) _ _ r1
      replace hw := below_setRow hw (show w.heap.size ≤ w.heap.size + 1 by omega) (irow .u8 (bl (ctr l n)))
      generalize wr.setRow (w.heap.size + 1) (irow .u8 (bl (ctr l n))) = w9 at *
      exact bodyPost_ret (v := .agg (irow .u8 (bl (ctr l n)))) (results_cell_row Tryd.results34 _ _ (w.heap.size + 1) _ _ _ _ rfl r1 Tryd.underlying53 rfl hi9) rfl ⟨rfl, hw⟩


def cft (l : List B) (n k : Nat) : List B := mk16 fun i => if 16 ≤ i + k then ctb l n i else 0#8
theorem cft_len (l : List B) (n k : Nat) : (cft l n k).length = 16 := mk16_len _
theorem cft_zero (l : List B) (n : Nat) : bl (cft l n 0) = zr 16 := by
  rw [← bl_zr]
  congr 1
theorem cft_full (l : List B) (n : Nat) : cft l n 16 = ctr l n := by
  apply ext16 (cft_len _ _ _) (ctr_len _ _)
  intro i hi
  rw [cft, mk16_get _ hi, if_pos (by omega), ctr, mk16_get _ hi]
theorem cft_set (l : List B) (n k : Nat) (h : k < 16) : (cft l n k).set (15 - k) (ctb l n (15 - k)) = cft l n (k + 1) := by
  apply ext16 (by rw [List.length_set, cft_len]) (cft_len _ _ _)
  intro i hi
  rw [List.getD_eq_getElem?_getD, List.getElem?_set]
  by_cases e : 15 - k = i
  · rw [if_pos e, if_pos (by rw [cft_len]; omega), cft, mk16_get _ hi, if_pos (by omega), e]; rfl
  · rw [if_neg e, ← List.getD_eq_getElem?_getD, cft, mk16_get _ hi, cft, mk16_get _ hi]
    by_cases g : 16 ≤ i + k
    · rw [if_pos g, if_pos (by omega)]
    · rw [if_neg g, if_neg (by omega)]
theorem bNo (cs : Array Value) (W : World) : (Instr.box 28 (.agg cs)).run Tryd.prog W = .ok (.pointer (some ⟨W.heap.size, 0, none⟩)) (W.alloc (.cells cs 28)) := by kernel_rfl
theorem infoN : (Tryd.prog.info? 28).map (·.size) = some 16 := by kernel_rfl
set_option maxRecDepth 100000 in
set_option maxHeartbeats 4000000 in
theorem r_counter (l : List B) (hl : l.length = 16) (n : Nat) (hn : n < 18446744073709551616) : Gives 46 #[.agg (irow .u8 (bl (l))), .int .u64 (n : Int)] (.agg (irow .u8 (bl (ctr l n)))) := by
  intro w
  have R0 := hp3_0 w (.cells (irow .u8 (bl (l))) 28) (.cells (irow .u8 (zr 16)) 63) (.cells (irow .u8 (zr 16)) 63)
  have R1 := hp3_1 w (.cells (irow .u8 (bl (l))) 28) (.cells (irow .u8 (zr 16)) 63) (.cells (irow .u8 (zr 16)) 63)
  have R2 := hp3_2 w (.cells (irow .u8 (bl (l))) 28) (.cells (irow .u8 (zr 16)) 63) (.cells (irow .u8 (zr 16)) 63)
  have hw : Below w.heap.size w (((w.alloc (.cells (irow .u8 (bl (l))) 28)).alloc (.cells (irow .u8 (zr 16)) 63)).alloc (.cells (irow .u8 (zr 16)) 63)) := ((((Below.refl _ _).alloc (Nat.le_refl _) _).alloc (by simp) _).alloc (by simp; omega) _)

  go_enter Tryd.func46, Tryd.ntmps46
  go_wp2_with (first | (refine wpList_box rfl 28 _ rfl _ rfl (bNo _) ?_) | (refine wpList_alloc rfl 63 rfl (irow .u8 (zr 16)) zR ?_) | fail)
  try simp only [size_alloc1, Act.put, List.setIfInBounds_toArray, List.set_cons_succ, List.set_cons_zero]
  generalize World.alloc _ _ = w0 at *
  go_loopw [1, 6, 7] (fun m c i wr => ∃ k M C : Nat, k ≤ 16 ∧ i = .int .i64 (15 - (k : Int)) ∧ m = .int .u64 (M : Int) ∧ c = .int .u64 (C : Int) ∧ C ≤ 1 ∧ M < 18446744073709551616 ∧ Hid (M + C = cr l n k) ∧ wr.heap[w.heap.size]? = some (.cells (irow .u8 (bl (l))) 28 (0, 0)) ∧ wr.heap[w.heap.size + 1]? = some (.cells (irow .u8 (zr 16)) 63 (0, 0)) ∧ wr.heap[w.heap.size + 1 + 1]? = some (.cells (irow .u8 (bl (cft l n k))) 63 (0, 0)) ∧ Below w.heap.size w wr) (fun _ _ i _ => (intOf i + 1).toNat)
  case atStart => exact ⟨0, n, 0, by omega, rfl, rfl, rfl, by omega, hn, hide rfl, R0, R1, by rw [cft_zero]; exact R2, hw⟩
  case round =>
    clear R0 R1 R2 hw
    obtain ⟨k, M, C, hk, rfl, rfl, rfl, hC, hM, hMC, r0, r1, r2, hw⟩ := hrel
    by_cases hlt : k < 16
    · have hd : decide (15 - (k : Int) ≥ 0) = true := by simp; omega
      have hto : (15 - (k : Int)).toNat = 15 - k := by omega
      have c0 := brow_cell r0 (j := 15 - k) (by omega)
      rw [show l.getD (15 - k) 0#8 = gb l (15 - k) from rfl] at c0
      have hset := hide (cft_set l n k hlt)
      have hbd : 0 ≤ 15 - (k : Int) ∧ 15 - (k : Int) < 16 := by omega
      have hx : Hid ((bv (gb l (15 - k)) + (M : Int) % 256 + (C : Int)) % 256 = bv (ctb l n (15 - k))) := hide (by
        rw [← bv_ctb l n k hlt, ← hMC.out]; have := bnd (gb l (15 - k)); omega)
      have hx2 : Hid (M / 256 + (((gb l (15 - k)).toNat + M % 256 + C) / 256) = cr l n (k + 1)) := hide (by
        rw [cr, ← hMC.out]; have := (gb l (15 - k)).isLt; omega)
      have e3 : bv (gb l (15 - k)) = ((gb l (15 - k)).toNat : Int) := rfl
      have b3 := (gb l (15 - k)).isLt
      have cw := brow_cell r2 (j := 15 - k) (by rw [cft_len]; omega)
      have hf := row_frozen r2 (15 - k)
      rw [e3] at hx c0
      generalize ctb l n (15 - k) = x1 at *
      generalize (gb l (15 - k)).toNat = x0 at *
      clear e3
      go_wp2
      refine ⟨⟨k + 1, M / 256, (x0 + M % 256 + C) / 256, by omega, by congr 1; omega, by congr 1, by congr 1, by omega, by omega, hx2, heap_other r0 (by omega), heap_other r1 (by omega), by rw [hx.out, ← hset.out]; exact brow_set r2 (15 - k) x1, hw.setCell (show w.heap.size ≤ w.heap.size + 1 + 1 by omega) _⟩, by simp [intOf]; omega⟩
    · obtain rfl : k = 16 := by omega
      have hd : decide (15 - ((16 : Nat) : Int) ≥ 0) = false := by decide
      rw [cft_full] at r2
      clear hk hlt
      have hi9 := info_bl infoR (ctr l n) (ctr_len _ _)
      have hfi : (irow .u8 (zr 16)).size = (irow .u8 (bl (ctr l n))).size := by rw [irow_size, irow_size, bl_len, ctr_len, zr_len]
      go_wp2_with (first | (refine wpList_load_want rfl 63 _ rfl (w.heap.size + 1 + 1) rfl 63 (irow .u8 (bl (ctr l n))) (0, 0) _ r2 Tryd.underlying63 rfl hi9 ?_) | (refine wpList_store_row rfl 63 _ _ rfl (w.heap.size + 1) (irow .u8 (bl (ctr l n))) rfl rfl 63 _ r1 hi9 hfi (irow_one _ _) ?_) | fail)
      replace r1 := setRow_heap wr (w.heap.size + 1) _ (irow .u8 (bl (ctr l n))) _ _ r1
      replace hw := below_setRow hw (show w.heap.size ≤ w.heap.size + 1 by omega) (irow .u8 (bl (ctr l n)))
      generalize wr.setRow (w.heap.size + 1) (irow .u8 (bl (ctr l n))) = w9 at *
      exact bodyPost_ret (v := .agg (irow .u8 (bl (ctr l n)))) (results_cell_row Tryd.results46 _ _ (w.heap.size + 1) _ _ _ _ rfl r1 Tryd.underlying63 rfl hi9) rfl ⟨rfl, hw⟩


/-- Bytes of the data, with their bounds. -/
def BysB (W : World) (v : Value) (bs : List B) : Prop := Bys W v (bl bs) ∧ bs.length ≤ 140737488351232 ∧ (∀ a l c, v = .slice a l c → a = none → c = 0)
theorem BysB.keep {W W' : World} {v : Value} {bs : List B} (h : BysB W v bs) (hb : Below W.heap.size W W') : BysB W' v bs := ⟨h.1.keep hb, h.2⟩
/-- A list of its own. -/
def Own (W : World) (b : Nat) (v : Value) (d : List B) : Prop := W.ownsRow b 5 1 v d.length ((bl d).map (Value.int .u8))
set_option maxHeartbeats 2000000 in
theorem a_clone2 (d : List B) (w : World) (v : Value) (hB : BysB w v d) : Calls Tryd.prog 35 #[v] w fun e w' => ∃ u, e = .returned u ∧ (Own w' w.heap.size u d ∧ (∀ ad l c, v = .slice (some ad) l c → u ≠ .slice none 0 0)) ∧ Below w.heap.size w w' := by
  obtain ⟨⟨ao, cap, rfl, hl, hc, hz⟩, hlen, hnil⟩ := hB
  obtain ⟨i0, hi, hz0, hz1, hz2⟩ := info85
  rw [bl_len] at *
  cases ao with
  | none =>
    obtain rfl := hnil none _ _ rfl rfl
    have h0 : d.length = 0 := by
      rcases Nat.eq_zero_or_pos d.length with h | h
      · exact h
      · obtain ⟨b, off, e, _⟩ := hc 0 h
        cases e
    obtain rfl : d = [] := List.length_eq_zero_iff.1 h0
    clear hc
    have heq : ∀ W : World, (binOp .eql 29 (.slice none 0 0) (.slice none 0 0)).run Tryd.prog W = .ok (.bool true) W := fun W => by kernel_rfl
    go_enter Tryd.func35, Tryd.ntmps35
    go_wp2
    go_ret
    exact ⟨_, rfl, ⟨⟨rfl, .inl ⟨rfl, rfl⟩⟩, fun ad l c h => by cases h⟩, Below.refl _ _⟩
  | some ad =>
    have heq : ∀ W : World, (binOp .eql 29 (.slice (some ad) d.length cap) (.slice none 0 0)).run Tryd.prog W = .ok (.bool false) W := fun W => by kernel_rfl
    have hcell : ∀ W : World, Below w.heap.size w W → ∀ j u, ((bl d).map (Value.int .u8))[j]? = some u → W.cell? (ad.add j) = some u := fun W hW j u hu => by
      have hj : j < d.length := by
        have := (List.getElem?_eq_some_iff.1 hu).1
        simpa [bl_len] using this
      obtain ⟨b, off, e', hb, hcl⟩ := hc j hj
      obtain rfl : ad = ⟨b, off, none⟩ := Option.some.inj e'
      have : u = .int .u8 ((bl d).getD j 0) := by
        have hj' : j < (bl d).length := by rw [bl_len]; exact hj
        simp only [List.getElem?_map, List.getElem?_eq_getElem hj', Option.map_some, Option.some.injEq] at hu
        rw [← hu, List.getD_eq_getElem?_getD, List.getElem?_eq_getElem hj']; rfl
      rw [this, addr_add]
      exact (hW.cell hb).trans hcl
    replace hcell := hide hcell
    clear hc
    go_enter Tryd.func35, Tryd.ntmps35
    have hb0 : Below w.heap.size w (w.alloc (.cells #[] 5)) := (Below.refl _ _).alloc (Nat.le_refl _) _
    have hown0 : (w.alloc (.cells #[] 5)).ownsRow w.heap.size 5 1 (.slice (some ⟨w.heap.size, 0, none⟩) 0 0) 0 [] := ⟨rfl, .inr ⟨w.heap.size, 0, #[], rfl, Nat.le_refl _, hp1_0 w _, Nat.le_refl _, by decide, rfl, rfl⟩⟩
    go_wp2_with (at_builtin; refine wpList_append_own _ rfl (.tmp 5) (.tmp 6) 29 rfl w.heap.size 5 i0 (.int .u8 0) 1 1 Tryd.underlying29 hi hz0 hz1 hz2 rfl (by decide) (.slice (some ⟨w.heap.size, 0, none⟩) 0 0) 0 [] rfl hown0 ad d.length cap ((bl d).map (Value.int .u8)) rfl (by simp [bl_len]) (hcell.out _ hb0) (ints_one .u8 _) (by unfold maxLen; omega) (by omega) hb0.size ?_)
    intro v' w1 hown2 hgrow hnn
    have hn2 : Hid (v' ≠ .slice none 0 0) := hide hnn
    clear hnn
    have hw := hb0.grown hgrow hb0.size (fun k h => (hown0.lt k h).1)
    clear hgrow
    obtain ⟨ao', cap', rfl⟩ := slen_own5 hown2
    go_wp2
    go_ret
    refine ⟨_, rfl, ⟨?_, fun _ _ _ _ => hn2.out⟩, hw⟩
    unfold Own
    simpa using hown2
theorem a_clone5 (d : List B) (w : World) (v : Value) (hB : BysB w v d) : Calls Tryd.prog 35 #[v] w fun e w' => ∃ u, e = .returned u ∧ Own w' w.heap.size u d ∧ Below w.heap.size w w' := (a_clone2 d w v hB).mono fun _ _ ⟨u, h1, h2, h3⟩ => ⟨u, h1, h2.1, h3⟩

end Go.Proofs.YtamieopjigjfiaaDoor


namespace Go.Proofs.YtamieopjigjfiaaDoor
set_option maxRecDepth 100000
open Go Go.RowKit Go.Sort
attribute [local go_sem] setCell_drewN alloc_drewN


/-! A state's cells; a cipher's cells. -/
def srow (ws : List Wd) (g : Nat) (r : Int) : Array Value := irow .u32 (wl ws) ++ #[.pointer (some ⟨g, 0, none⟩), .int .i64 r]
theorem srow_size (ws : List Wd) (g : Nat) (r : Int) : (srow ws g r).size = ws.length + 2 := by simp [srow, irow_size, wl_len]
theorem srow_one (ws : List Wd) (g : Nat) (r : Int) : (srow ws g r).all (·.oneCell') = true := by
  rw [srow, Array.all_append, irow_one]; simp [Value.oneCell']
theorem srow_cell {W : World} {b g : Nat} {ws : List Wd} {r : Int} {t : TypeId} (hg : W.heap[b]? = some (.cells (srow ws g r) t (0, 0))) {j : Nat} (hj : j < ws.length) : W.cell? ⟨b, j, none⟩ = some (.int .u32 (wv (ws.getD j 0#32))) := by
  rw [cell_of_row W b j _ t (0, 0) hg, srow, Array.getElem?_append_left (by rw [irow_size, wl_len]; exact hj), irow_get _ _ _ (by rw [wl_len]; exact hj), wl_get]
theorem srow_ptr {W : World} {b g : Nat} {ws : List Wd} {r : Int} {t : TypeId} (hg : W.heap[b]? = some (.cells (srow ws g r) t (0, 0))) (hl : ws.length = 4) : W.cell? ⟨b, 4, none⟩ = some (.pointer (some ⟨g, 0, none⟩)) := by
  rw [cell_of_row W b 4 _ t (0, 0) hg, srow, Array.getElem?_append_right (by rw [irow_size, wl_len, hl]; omega), irow_size, wl_len, hl]; rfl
theorem srow_rnd {W : World} {b g : Nat} {ws : List Wd} {r : Int} {t : TypeId} (hg : W.heap[b]? = some (.cells (srow ws g r) t (0, 0))) (hl : ws.length = 4) : W.cell? ⟨b, 5, none⟩ = some (.int .i64 r) := by
  rw [cell_of_row W b 5 _ t (0, 0) hg, srow, Array.getElem?_append_right (by rw [irow_size, wl_len, hl]; omega), irow_size, wl_len, hl]; rfl
theorem srow_put (ws : List Wd) (g : Nat) (r : Int) (j : Nat) (z : Wd) (hj : j < ws.length) : (srow ws g r).setIfInBounds j (.int .u32 (wv z)) = srow (ws.set j z) g r := by
  rw [srow, Array.setIfInBounds_append_left (by rw [irow_size, wl_len]; exact hj), srow, ← wl_set]
  congr 1
  simp [irow, List.map_set]
theorem srow_set {W : World} {b g : Nat} {ws : List Wd} {r : Int} {t : TypeId} (hg : W.heap[b]? = some (.cells (srow ws g r) t (0, 0))) (j : Nat) (z : Wd) (hj : j < ws.length) : (W.setCell ⟨b, j, none⟩ (.int .u32 (wv z))).heap[b]? = some (.cells (srow (ws.set j z) g r) t (0, 0)) := by
  rw [heap_setCell_same W b j _ t _ hg, srow_put _ _ _ _ _ hj]
theorem srow_setr {W : World} {b g : Nat} {ws : List Wd} {r : Int} {t : TypeId} (hg : W.heap[b]? = some (.cells (srow ws g r) t (0, 0))) (hl : ws.length = 4) (z : Int) : (W.setCell ⟨b, 5, none⟩ (.int .i64 z)).heap[b]? = some (.cells (srow ws g z) t (0, 0)) := by
  rw [heap_setCell_same W b 5 _ t _ hg, srow, Array.setIfInBounds_append_right (by rw [irow_size, wl_len, hl]; omega), irow_size, wl_len, hl]; rfl
theorem infoS5 : (Tryd.prog.info? 93).map (·.size) = some 6 := by kernel_rfl
theorem info_sr (ws : List Wd) (g : Nat) (r : Int) (hl : ws.length = 4) : (Tryd.prog.info? 93).map (·.size) = some (srow ws g r).size := by
  rw [srow_size, hl]; exact infoS5
/-- A state of nothing. -/
def zst : Array Value := #[.int .u32 0, .int .u32 0, .int .u32 0, .int .u32 0, .pointer none, .int .i64 0]
theorem zSt (W : World) : (Instr.alloc 93 true (.tuple #[])).run Tryd.prog W = .ok (.pointer (some ⟨W.heap.size, 0, none⟩)) (W.alloc (.cells zst 93)) := by kernel_rfl
theorem bSt (cs : Array Value) (W : World) : (Instr.box 93 (.agg cs)).run Tryd.prog W = .ok (.pointer (some ⟨W.heap.size, 0, none⟩)) (W.alloc (.cells cs 93)) := by kernel_rfl
theorem srow_cols (ws : List Wd) (g : Nat) (r : Int) : (srow ws g r).extract 0 (0 + (irow .u32 (wl ws)).size) = irow .u32 (wl ws) := by
  rw [srow, Nat.zero_add]; simp
/-- A cipher's cells: the keys of its rounds, Sub and Back. -/
def cph (K : List B) : Array Value := irow .u32 (wl (wos K 60)) ++ (irow .u8 (bl sbl) ++ irow .u8 (bl bkl))
def Cph (W : World) (g : Nat) (K : List B) : Prop := W.heap[g]? = some (.cells (cph K) 84 (0, 0))
theorem Cph.keep {w W : World} {g : Nat} {K : List B} (h : Cph w g K) (hb : Below w.heap.size w W) : Cph W g K := Go.Proofs.YtamieopjigjfiaaDoor.keep hb h
theorem Cph.sub {W : World} {g : Nat} {K : List B} (h : Cph W g K) (x : B) : W.cell? ⟨g, 60 + x.toNat, none⟩ = some (.int .u8 (bv (sb x))) := by
  have hx := x.isLt
  rw [cell_of_row W g _ _ _ (0, 0) h, cph, Array.getElem?_append_right (by rw [irow_size, wl_len, wos_len]; omega), Array.getElem?_append_left (by rw [irow_size, irow_size, wl_len, wos_len, bl_len, sbl_len]; omega), irow_size, wl_len, wos_len, show 60 + x.toNat - 60 = x.toNat by omega, irow_get _ _ _ (by rw [bl_len, sbl_len]; exact hx), bl_get, sbl_get]
theorem Cph.back {W : World} {g : Nat} {K : List B} (h : Cph W g K) (x : B) : W.cell? ⟨g, 316 + x.toNat, none⟩ = some (.int .u8 (bv (bk x))) := by
  have hx := x.isLt
  rw [cell_of_row W g _ _ _ (0, 0) h, cph, Array.getElem?_append_right (by rw [irow_size, wl_len, wos_len]; omega), Array.getElem?_append_right (by rw [irow_size, irow_size, wl_len, wos_len, bl_len, sbl_len]; omega), irow_size, wl_len, wos_len, irow_size, bl_len, sbl_len, show 316 + x.toNat - 60 - 256 = x.toNat by omega, irow_get _ _ _ (by rw [bl_len, bkl_len]; exact hx), bl_get, bkl_get]
/-- The words of the key of a round. -/
def kws (K : List B) (r : Nat) : List Wd := (List.range 4).map fun j => wo K (4 * r + j)
theorem kws_len (K : List B) (r : Nat) : (kws K r).length = 4 := by simp [kws]
theorem kws_get (K : List B) (r j : Nat) (h : j < 4) : (kws K r).getD j 0#32 = wo K (4 * r + j) := by
  simp [kws, List.getD_eq_getElem?_getD, h]
theorem cph_size (K : List B) : (cph K).size = 572 := by
  rw [cph, Array.size_append, Array.size_append, irow_size, irow_size, irow_size, wl_len, wos_len, bl_len, bl_len, sbl_len, bkl_len]
theorem cph_key (K : List B) (r : Nat) (hr : r < 15) : (cph K).extract (4 * r) (4 * r + (irow .u32 (wl (kws K r))).size) = irow .u32 (wl (kws K r)) := by
  apply Array.ext_getElem?
  intro j
  rw [irow_size, wl_len, kws_len]
  by_cases hj : j < 4
  · have hs := cph_size K
    have hlt : j < min (4 * r + 4) (cph K).size - 4 * r := by rw [hs]; omega
    rw [Array.getElem?_extract, if_pos hlt]
    clear hlt hs
    rw [cph, Array.getElem?_append_left (by rw [irow_size, wl_len, wos_len]; omega), irow_get _ _ _ (by rw [wl_len, wos_len]; omega), wl_get, wos_get _ _ _ (by omega), irow_get _ _ _ (by rw [wl_len, kws_len]; exact hj), wl_get, kws_get _ _ _ hj]
  · rw [Array.getElem?_eq_none (by rw [Array.size_extract]; omega), Array.getElem?_eq_none (by rw [irow_size, wl_len, kws_len]; omega)]
/-- Four words, the first k turned by f. -/
def up (f : Nat → Wd) (l : List B) (k : Nat) : List Wd := (List.range 4).map fun j => if j < k then f j else wo l j
theorem up_len (f : Nat → Wd) (l : List B) (k : Nat) : (up f l k).length = 4 := by simp [up]
theorem up_zero (f : Nat → Wd) (l : List B) : up f l 0 = wos l 4 := by
  apply List.map_congr_left
  intro j _
  rw [if_neg (by omega)]
theorem up_full (l m : List B) : up (wo m) l 4 = wos m 4 := by
  apply List.map_congr_left
  intro j hj
  rw [List.mem_range] at hj
  rw [if_pos hj]
theorem up_get (f : Nat → Wd) (l : List B) (k : Nat) (h : k < 4) : (up f l k).getD k 0#32 = wo l k := by
  simp [up, List.getD_eq_getElem?_getD, h]
theorem up_set (f : Nat → Wd) (l : List B) (k : Nat) (h : k < 4) : (up f l k).set k (f k) = up f l (k + 1) := by
  apply List.ext_getElem?
  intro j
  rw [List.getElem?_set]
  by_cases e : k = j
  · subst e
    rw [if_pos rfl, if_pos (by rw [up_len]; exact h)]
    simp [up, h]
  · rw [if_neg e]
    simp only [up, List.getElem?_map]
    by_cases hj : j < 4
    · simp only [List.getElem?_range hj, Option.map_some]
      by_cases h1 : j < k
      · rw [if_pos h1, if_pos (by omega)]
      · rw [if_neg h1, if_neg (by omega)]
    · rw [List.getElem?_eq_none (by simp; omega)]; rfl
theorem indexC (ws : List Wd) (hl : ws.length = 4) (j : Nat) (hj : j < 4) (W : World) : (Instr.index 81 (.agg (irow .u32 (wl ws))) (.int .i64 (j : Int))).run Tryd.prog W = .ok (.int .u32 (wv (ws.getD j 0#32))) W := by
  obtain ⟨i0, hi⟩ : ∃ i, Tryd.prog.info? 79 = some i := ⟨_, rfl⟩
  rw [← wl_get]
  exact index_row Tryd.underlying81 Tryd.underlying79 hi (fun W => by kernel_rfl) (wl ws) (by rw [wl_len, hl]) j hj W
/-! The steps, word by word. -/
theorem wo_xor (l m : List B) (k : Nat) (h : k < 4) : wo (xorL l m) k = wo l k ^^^ wo m k := by
  rw [wo, wo, wo, wd_xor, xorL_get _ _ (by omega), xorL_get _ _ (by omega), xorL_get _ _ (by omega), xorL_get _ _ (by omega)]
theorem wo_kr (K : List B) (r k : Nat) (h : k < 4) : wo (kr K r) k = wo K (4 * r + k) := by
  rw [wo, wo, kr, mk16_get _ (by omega), mk16_get _ (by omega), mk16_get _ (by omega), mk16_get _ (by omega), show 16 * r + 4 * k = 4 * (4 * r + k) by omega, show 16 * r + (4 * k + 1) = 4 * (4 * r + k) + 1 by omega, show 16 * r + (4 * k + 2) = 4 * (4 * r + k) + 2 by omega, show 16 * r + (4 * k + 3) = 4 * (4 * r + k) + 3 by omega]
theorem wo_sub (l : List B) (k : Nat) (h : k < 4) : wo (subL l) k = wd (sb (l.getD (4 * k) 0#8)) (sb (l.getD (4 * k + 1) 0#8)) (sb (l.getD (4 * k + 2) 0#8)) (sb (l.getD (4 * k + 3) 0#8)) := by
  rw [wo, subL_get _ (by omega), subL_get _ (by omega), subL_get _ (by omega), subL_get _ (by omega)]
theorem wo_unsub (l : List B) (k : Nat) (h : k < 4) : wo (unsubL l) k = wd (bk (l.getD (4 * k) 0#8)) (bk (l.getD (4 * k + 1) 0#8)) (bk (l.getD (4 * k + 2) 0#8)) (bk (l.getD (4 * k + 3) 0#8)) := by
  rw [wo, unsubL_get _ (by omega), unsubL_get _ (by omega), unsubL_get _ (by omega), unsubL_get _ (by omega)]
theorem wo_shift (l : List B) (k : Nat) (h : k < 4) : wo (shiftL l) k = wd (l.getD (4 * k) 0#8) (l.getD (4 * ((k + 1) % 4) + 1) 0#8) (l.getD (4 * ((k + 2) % 4) + 2) 0#8) (l.getD (4 * ((k + 3) % 4) + 3) 0#8) := by
  rw [wo, shiftL_get _ (by omega), shiftL_get _ (by omega), shiftL_get _ (by omega), shiftL_get _ (by omega)]
  congr 2 <;> omega
theorem wo_unshift (l : List B) (k : Nat) (h : k < 4) : wo (unshiftL l) k = wd (l.getD (4 * k) 0#8) (l.getD (4 * ((k + 3) % 4) + 1) 0#8) (l.getD (4 * ((k + 2) % 4) + 2) 0#8) (l.getD (4 * ((k + 1) % 4) + 3) 0#8) := by
  rw [wo, unshiftL_get _ (by omega), unshiftL_get _ (by omega), unshiftL_get _ (by omega), unshiftL_get _ (by omega)]
  congr 2 <;> omega
theorem wo_mix (l : List B) (k : Nat) (h : k < 4) (a b c d : B) (ha : a = l.getD (4 * k) 0#8) (hb : b = l.getD (4 * k + 1) 0#8) (hc : c = l.getD (4 * k + 2) 0#8) (hd : d = l.getD (4 * k + 3) 0#8) :
    wo (mixL l) k = wd (dbl (a ^^^ b)) (dbl (b ^^^ c)) (dbl (c ^^^ d)) (dbl (d ^^^ a)) ^^^ wd b c d a ^^^ wd c d a b ^^^ wd d a b c := by
  have q : ∀ r < 4, (mixL l).getD (4 * k + r) 0#8 = mg (mixL l) k r := fun r hr => by unfold mg; rw [Nat.mod_eq_of_lt hr]
  have m0 : ∀ r, mg l k (r + 4) = mg l k r := mg_add4 l k
  have e0 : mg l k 0 = a := by rw [ha]; rfl
  have e1 : mg l k 1 = b := by rw [hb]; rfl
  have e2 : mg l k 2 = c := by rw [hc]; rfl
  have e3 : mg l k 3 = d := by rw [hd]; rfl
  have e4 : mg l k 4 = a := (m0 0).trans e0
  have e5 : mg l k 5 = b := (m0 1).trans e1
  have e6 : mg l k 6 = c := (m0 2).trans e2
  rw [wo, show (mixL l).getD (4 * k) 0#8 = mg (mixL l) k 0 from q 0 (by omega), q 1 (by omega), q 2 (by omega), q 3 (by omega), mg_mix _ _ _ h, mg_mix _ _ _ h, mg_mix _ _ _ h, mg_mix _ _ _ h]
  simp only [Nat.zero_add, Nat.reduceAdd, e0, e1, e2, e3, e4, e5, e6, wd_xor, dbl_add _ _]

end Go.Proofs.YtamieopjigjfiaaDoor


namespace Go.Proofs.YtamieopjigjfiaaDoor
set_option maxRecDepth 100000
open Go Go.RowKit Go.Sort
attribute [local go_sem] setCell_drewN alloc_drewN


set_option maxRecDepth 100000 in
set_option maxHeartbeats 4000000 in
theorem a_subbed (l : List B) (K : List B) (g : Nat) (r : Int) (w : World) (hC : Cph w g K) : Calls Tryd.prog 56 #[.agg (srow (wos l 4) g r)] w fun e w' => e = .returned (.agg (srow (wos (subL l) 4) g r)) ∧ Below w.heap.size w w' := by
  have R0 := hp2_0 w (.cells (srow (wos l 4) g r) 93) (.cells zst 93)
  have R1 := hp2_1 w (.cells (srow (wos l 4) g r) 93) (.cells zst 93)
  have HW : Below w.heap.size w ((w.alloc (.cells (srow (wos l 4) g r) 93)).alloc (.cells zst 93)) := (((Below.refl _ _).alloc (Nat.le_refl _) _).alloc (by simp) _)

  have hgl : g < w.heap.size := lt_of_row hC
  replace hC := hC.keep HW
  have hi0 := info_wl infoC (wos l 4) (wos_len _ _)
  go_enter Tryd.func56, Tryd.ntmps56
  go_wp2_with (first | (refine wpList_box rfl 93 _ rfl _ rfl (bSt _) ?_) | (refine wpList_alloc rfl 93 rfl zst zSt ?_) | (refine wpList_load_part rfl 81 _ rfl (w.heap.size) 0 rfl 93 (srow (wos l 4) g r) (0, 0) (irow .u32 (wl (wos l 4))) _ R0 (srow_cols _ _ _) Tryd.underlying81 rfl hi0 ?_) | fail)
  try simp only [size_alloc1, Act.put, List.setIfInBounds_toArray, List.set_cons_succ, List.set_cons_zero]
  generalize ((w.alloc (.cells (srow (wos l 4) g r) 93)).alloc (.cells zst 93)) = w0 at *
  go_loopw [7] (fun i wr => ∃ k : Nat, k ≤ 4 ∧ i = .int .i64 k ∧ wr.heap[w.heap.size]? = some (.cells (srow (up (wo (subL l)) l k) g r) 93 (0, 0)) ∧ wr.heap[w.heap.size + 1]? = some (.cells zst 93 (0, 0)) ∧ Cph wr g K ∧ Below w.heap.size w wr) (fun i _ => 4 - (intOf i).toNat)
  case atStart => exact ⟨0, by omega, rfl, by rw [up_zero]; exact R0, R1, hC, HW⟩
  case round =>
    clear R0 R1 hC HW
    obtain ⟨k, hk, rfl, r0, r1, hC, hw⟩ := hrel
    by_cases hlt : k < 4
    · have hd : decide ((k : Int) < 4) = true := by simp; omega
      have hix := indexC (wos l 4) (wos_len _ _) k hlt wr
      rw [wos_get l 4 k hlt] at hix
      have cp := srow_ptr r0 (up_len _ _ _)
      have ct := a_through sb g 60 (l.getD (4 * k) 0#8) (l.getD (4 * k + 1) 0#8) (l.getD (4 * k + 2) 0#8) (l.getD (4 * k + 3) 0#8) wr hC.sub
      have hset := hide (up_set (wo (subL l)) l k hlt)
      rw [wo_sub l k hlt] at hset
      rw [wo] at hix
      generalize l.getD (4 * k) 0#8 = b0 at *
      generalize l.getD (4 * k + 1) 0#8 = b1 at *
      generalize l.getD (4 * k + 2) 0#8 = b2 at *
      generalize l.getD (4 * k + 3) 0#8 = b3 at *
      go_wp2_with (fail)
      refine (ct).mono ?_
      rintro e_ w1 ⟨rfl, hb⟩
      replace r0 := keep hb r0
      replace r1 := keep hb r1
      replace hC := hC.keep hb
      replace hw := Below.after hw hb
      clear hb hix cp
      have c0 := srow_cell r0 (j := k) (by rw [up_len]; exact hlt)
      have hf := row_frozen r0 k
      go_wp2
      refine ⟨⟨k + 1, by omega, by go_num, by rw [← hset.out]; exact srow_set r0 k _ (by rw [up_len]; exact hlt), heap_other r1 (by omega), heap_other hC (Nat.ne_of_lt hgl), hw.setCell (Nat.le_refl _) _⟩, by simp [intOf]; omega⟩
    · obtain rfl : k = 4 := by omega
      have hd : decide ((4 : Int) < 4) = false := by decide
      rw [up_full l (subL l)] at r0
      have hi9 := info_sr (wos (subL l) 4) g r (wos_len _ _)
      have hfi : zst.size = (srow (wos (subL l) 4) g r).size := by rw [srow_size, wos_len]; rfl
      clear hk hlt
      go_wp2_with (first | (refine wpList_load_want rfl 93 _ rfl (w.heap.size) rfl 93 (srow (wos (subL l) 4) g r) (0, 0) _ r0 Tryd.underlying93 rfl hi9 ?_) | (refine wpList_store_row rfl 93 _ _ rfl (w.heap.size + 1) (srow (wos (subL l) 4) g r) rfl rfl 93 _ r1 hi9 hfi (srow_one _ _ _) ?_) | fail)
      replace r1 := setRow_heap wr (w.heap.size + 1) _ (srow (wos (subL l) 4) g r) _ _ r1
      replace hw := below_setRow hw (show w.heap.size ≤ w.heap.size + 1 by omega) (srow (wos (subL l) 4) g r)
      generalize wr.setRow (w.heap.size + 1) (srow (wos (subL l) 4) g r) = w9 at *
      exact bodyPost_ret (v := .agg (srow (wos (subL l) 4) g r)) (results_cell_row Tryd.results56 _ _ (w.heap.size + 1) _ _ _ _ rfl r1 Tryd.underlying93 rfl hi9) rfl ⟨rfl, hw⟩


set_option maxRecDepth 100000 in
set_option maxHeartbeats 4000000 in
theorem a_keyed (l : List B) (K : List B) (g : Nat) (r : Nat) (hr : r < 15) (w : World) (hC : Cph w g K) : Calls Tryd.prog 59 #[.agg (srow (wos l 4) g (r : Int))] w fun e w' => e = .returned (.agg (srow (wos (xorL l (kr K r)) 4) g (r : Int))) ∧ Below w.heap.size w w' := by
  have R0 := hp2_0 w (.cells (srow (wos l 4) g (r : Int)) 93) (.cells zst 93)
  have R1 := hp2_1 w (.cells (srow (wos l 4) g (r : Int)) 93) (.cells zst 93)
  have HW : Below w.heap.size w ((w.alloc (.cells (srow (wos l 4) g (r : Int)) 93)).alloc (.cells zst 93)) := (((Below.refl _ _).alloc (Nat.le_refl _) _).alloc (by simp) _)

  have hgl : g < w.heap.size := lt_of_row hC
  replace hC := hC.keep HW
  have hi0 := info_wl infoC (kws K r) (kws_len _ _)
  go_enter Tryd.func59, Tryd.ntmps59
  go_wp2_with (first | (refine wpList_box rfl 93 _ rfl _ rfl (bSt _) ?_) | (refine wpList_alloc rfl 93 rfl zst zSt ?_) | fail)
  try simp only [size_alloc1, Act.put, List.setIfInBounds_toArray, List.set_cons_succ, List.set_cons_zero]
  generalize ((w.alloc (.cells (srow (wos l 4) g (r : Int)) 93)).alloc (.cells zst 93)) = w0 at *
  have c4 := srow_ptr R0 (wos_len _ _)
  have c5 := srow_rnd R0 (wos_len _ _)
  have k4 : ∀ p : Regrown, (grow (redrawn w0 p.d) p.os).cell? ⟨w.heap.size, 4, none⟩ = some (.pointer (some ⟨g, 0, none⟩)) := fun p => cell_regrown c4 p.d p.os
  have k5 : ∀ p : Regrown, (grow (redrawn w0 p.d) p.os).cell? ⟨w.heap.size, 5, none⟩ = some (.int .i64 (r : Int)) := fun p => cell_regrown c5 p.d p.os
  have HC := keepr hC
  have hcx := cph_key K r hr
  refine wp_region_quiet_below (by kernel_rfl) (by kernel_rfl) ?_
  go_big_quiet_step (fail)
  go_big_quiet_step (fail)
  go_big_quiet_step (fail)
  go_big_quiet_step (fail)
  go_big_quiet_step (fail)
  go_big_quiet_step (fail)
  go_big_quiet_step (fail)
  refine wpQuiet_load_part rfl 81 _ rfl g (r * 4) rfl 84 (cph K) (0, 0) (irow .u32 (wl (kws K r))) _ HC.out (by rw [Nat.mul_comm r 4]; exact hcx) Tryd.underlying81 rfl hi0 ?_
  simp only [Act.put, List.setIfInBounds_toArray, List.set_cons_succ, List.set_cons_zero]
  go_big_quiet_step (fail)
  refine wpQuiet_nil ?_
  rintro _ ⟨p, rfl⟩
  have hb := below_regrown w0 p.d p.os
  generalize grow (redrawn w0 p.d) p.os = w1 at *
  clear k4 k5 HC c4 c5 hcx
  replace R0 := keep hb R0
  replace R1 := keep hb R1
  replace hC := hC.keep hb
  replace HW := Below.after HW hb
  clear hb
  go_wp2_with (fail)
  go_loopw [13] (fun i wr => ∃ k : Nat, k ≤ 4 ∧ i = .int .i64 k ∧ wr.heap[w.heap.size]? = some (.cells (srow (up (wo (xorL l (kr K r))) l k) g (r : Int)) 93 (0, 0)) ∧ wr.heap[w.heap.size + 1]? = some (.cells zst 93 (0, 0)) ∧ Cph wr g K ∧ Below w.heap.size w wr) (fun i _ => 4 - (intOf i).toNat)
  case atStart => exact ⟨0, by omega, rfl, by rw [up_zero]; exact R0, R1, hC, HW⟩
  case round =>
    clear R0 R1 hC HW
    obtain ⟨k, hk, rfl, r0, r1, hC, hw⟩ := hrel
    by_cases hlt : k < 4
    · have hd : decide ((k : Int) < 4) = true := by simp; omega
      have hix := indexC (kws K r) (kws_len _ _) k hlt wr
      rw [kws_get K r k hlt] at hix
      have c0 := srow_cell r0 (j := k) (by rw [up_len]; exact hlt)
      rw [up_get _ _ _ hlt] at c0
      have hf := row_frozen r0 k
      have hx := xor32 (wo l k) (wo K (4 * r + k))
      have hset := hide (up_set (wo (xorL l (kr K r))) l k hlt)
      rw [wo_xor _ _ _ hlt, wo_kr _ _ _ hlt] at hset
      generalize wo l k = x0 at *
      generalize wo K (4 * r + k) = x1 at *
      go_wp2
      refine ⟨⟨k + 1, by omega, by go_num, by rw [← hset.out]; exact srow_set r0 k _ (by rw [up_len]; exact hlt), heap_other r1 (by omega), heap_other hC (Nat.ne_of_lt hgl), hw.setCell (Nat.le_refl _) _⟩, by simp [intOf]; omega⟩
    · obtain rfl : k = 4 := by omega
      have hd : decide ((4 : Int) < 4) = false := by decide
      rw [up_full l (xorL l (kr K r))] at r0
      have hi9 := info_sr (wos (xorL l (kr K r)) 4) g r (wos_len _ _)
      have hfi : zst.size = (srow (wos (xorL l (kr K r)) 4) g (r : Int)).size := by rw [srow_size, wos_len]; rfl
      clear hk hlt
      go_wp2_with (first | (refine wpList_load_want rfl 93 _ rfl (w.heap.size) rfl 93 (srow (wos (xorL l (kr K r)) 4) g (r : Int)) (0, 0) _ r0 Tryd.underlying93 rfl hi9 ?_) | (refine wpList_store_row rfl 93 _ _ rfl (w.heap.size + 1) (srow (wos (xorL l (kr K r)) 4) g (r : Int)) rfl rfl 93 _ r1 hi9 hfi (srow_one _ _ _) ?_) | fail)
      replace r1 := setRow_heap wr (w.heap.size + 1) _ (srow (wos (xorL l (kr K r)) 4) g (r : Int)) _ _ r1
      replace hw := below_setRow hw (show w.heap.size ≤ w.heap.size + 1 by omega) (srow (wos (xorL l (kr K r)) 4) g (r : Int))
      generalize wr.setRow (w.heap.size + 1) (srow (wos (xorL l (kr K r)) 4) g (r : Int)) = w9 at *
      exact bodyPost_ret (v := .agg (srow (wos (xorL l (kr K r)) 4) g (r : Int))) (results_cell_row Tryd.results59 _ _ (w.heap.size + 1) _ _ _ _ rfl r1 Tryd.underlying93 rfl hi9) rfl ⟨rfl, hw⟩


set_option maxRecDepth 100000 in
set_option maxHeartbeats 4000000 in
theorem a_mixed5 (l : List B) (g : Nat) (r : Int) (w : World) : Calls Tryd.prog 58 #[.agg (srow (wos l 4) g r)] w fun e w' => e = .returned (.agg (srow (wos (mixL l) 4) g r)) ∧ Below w.heap.size w w' := by
  have R0 := hp2_0 w (.cells (srow (wos l 4) g r) 93) (.cells zst 93)
  have R1 := hp2_1 w (.cells (srow (wos l 4) g r) 93) (.cells zst 93)
  have HW : Below w.heap.size w ((w.alloc (.cells (srow (wos l 4) g r) 93)).alloc (.cells zst 93)) := (((Below.refl _ _).alloc (Nat.le_refl _) _).alloc (by simp) _)

  have hi0 := info_wl infoC (wos l 4) (wos_len _ _)
  go_enter Tryd.func58, Tryd.ntmps58
  go_wp2_with (first | (refine wpList_box rfl 93 _ rfl _ rfl (bSt _) ?_) | (refine wpList_alloc rfl 93 rfl zst zSt ?_) | (refine wpList_load_part rfl 81 _ rfl (w.heap.size) 0 rfl 93 (srow (wos l 4) g r) (0, 0) (irow .u32 (wl (wos l 4))) _ R0 (srow_cols _ _ _) Tryd.underlying81 rfl hi0 ?_) | fail)
  try simp only [size_alloc1, Act.put, List.setIfInBounds_toArray, List.set_cons_succ, List.set_cons_zero]
  generalize ((w.alloc (.cells (srow (wos l 4) g r) 93)).alloc (.cells zst 93)) = w0 at *
  go_loopw [7] (fun i wr => ∃ k : Nat, k ≤ 4 ∧ i = .int .i64 k ∧ wr.heap[w.heap.size]? = some (.cells (srow (up (wo (mixL l)) l k) g r) 93 (0, 0)) ∧ wr.heap[w.heap.size + 1]? = some (.cells zst 93 (0, 0)) ∧ Below w.heap.size w wr) (fun i _ => 4 - (intOf i).toNat)
  case atStart => exact ⟨0, by omega, rfl, by rw [up_zero]; exact R0, R1, HW⟩
  case round =>
    clear R0 R1 HW
    obtain ⟨k, hk, rfl, r0, r1, hw⟩ := hrel
    by_cases hlt : k < 4
    · have hd : decide ((k : Int) < 4) = true := by simp; omega
      have hix := indexC (wos l 4) (wos_len _ _) k hlt wr
      rw [wos_get l 4 k hlt] at hix
      have hset := hide (up_set (wo (mixL l)) l k hlt)
      rw [wo_mix l k hlt _ _ _ _ rfl rfl rfl rfl] at hset
      rw [wo] at hix
      generalize l.getD (4 * k) 0#8 = b0 at *
      generalize l.getD (4 * k + 1) 0#8 = b1 at *
      generalize l.getD (4 * k + 2) 0#8 = b2 at *
      generalize l.getD (4 * k + 3) 0#8 = b3 at *
      have l1 := a_left1 b0 b1 b2 b3
      have l2 := a_left2 b0 b1 b2 b3
      have l3 := a_left3 b0 b1 b2 b3
      have tw := a_wtwice (b0 ^^^ b1) (b1 ^^^ b2) (b2 ^^^ b3) (b3 ^^^ b0)
      have x0 := xor32 (wd b0 b1 b2 b3) (wd b1 b2 b3 b0)
      rw [wd_xor] at x0
      have x1 := xor32 (wd (dbl (b0 ^^^ b1)) (dbl (b1 ^^^ b2)) (dbl (b2 ^^^ b3)) (dbl (b3 ^^^ b0))) (wd b1 b2 b3 b0)
      have x2 := xor32 (wd (dbl (b0 ^^^ b1)) (dbl (b1 ^^^ b2)) (dbl (b2 ^^^ b3)) (dbl (b3 ^^^ b0)) ^^^ wd b1 b2 b3 b0) (wd b2 b3 b0 b1)
      have x3 := xor32 (wd (dbl (b0 ^^^ b1)) (dbl (b1 ^^^ b2)) (dbl (b2 ^^^ b3)) (dbl (b3 ^^^ b0)) ^^^ wd b1 b2 b3 b0 ^^^ wd b2 b3 b0 b1) (wd b3 b0 b1 b2)
      generalize wd (dbl (b0 ^^^ b1)) (dbl (b1 ^^^ b2)) (dbl (b2 ^^^ b3)) (dbl (b3 ^^^ b0)) = v0 at *
      generalize wd (b0 ^^^ b1) (b1 ^^^ b2) (b2 ^^^ b3) (b3 ^^^ b0) = v9 at *
      generalize wd b1 b2 b3 b0 = v1 at *
      generalize wd b2 b3 b0 b1 = v2 at *
      generalize wd b3 b0 b1 b2 = v3 at *
      generalize v0 ^^^ v1 ^^^ v2 ^^^ v3 = u3 at *
      generalize v0 ^^^ v1 ^^^ v2 = u2 at *
      generalize v0 ^^^ v1 = u1 at *
      go_wp2_with (fail)
      refine (l1.at _).mono ?_
      rintro e_ w1 ⟨rfl, hb⟩
      replace r0 := keep hb r0
      replace r1 := keep hb r1
      replace hw := Below.after hw hb
      clear hb
      go_wp2_with (fail)
      refine (tw.at _).mono ?_
      rintro e_ w2 ⟨rfl, hb⟩
      replace r0 := keep hb r0
      replace r1 := keep hb r1
      replace hw := Below.after hw hb
      clear hb
      go_wp2_with (fail)
      refine (l1.at _).mono ?_
      rintro e_ w3 ⟨rfl, hb⟩
      replace r0 := keep hb r0
      replace r1 := keep hb r1
      replace hw := Below.after hw hb
      clear hb
      go_wp2_with (fail)
      refine (l2.at _).mono ?_
      rintro e_ w4 ⟨rfl, hb⟩
      replace r0 := keep hb r0
      replace r1 := keep hb r1
      replace hw := Below.after hw hb
      clear hb
      go_wp2_with (fail)
      refine (l3.at _).mono ?_
      rintro e_ w5 ⟨rfl, hb⟩
      replace r0 := keep hb r0
      replace r1 := keep hb r1
      replace hw := Below.after hw hb
      clear hb

      have c0 := srow_cell r0 (j := k) (by rw [up_len]; exact hlt)
      have hf := row_frozen r0 k
      go_wp2
      refine ⟨⟨k + 1, by omega, by go_num, by rw [← hset.out]; exact srow_set r0 k _ (by rw [up_len]; exact hlt), heap_other r1 (by omega), hw.setCell (Nat.le_refl _) _⟩, by simp [intOf]; omega⟩
    · obtain rfl : k = 4 := by omega
      have hd : decide ((4 : Int) < 4) = false := by decide
      rw [up_full l (mixL l)] at r0
      have hi9 := info_sr (wos (mixL l) 4) g r (wos_len _ _)
      have hfi : zst.size = (srow (wos (mixL l) 4) g r).size := by rw [srow_size, wos_len]; rfl
      clear hk hlt
      go_wp2_with (first | (refine wpList_load_want rfl 93 _ rfl (w.heap.size) rfl 93 (srow (wos (mixL l) 4) g r) (0, 0) _ r0 Tryd.underlying93 rfl hi9 ?_) | (refine wpList_store_row rfl 93 _ _ rfl (w.heap.size + 1) (srow (wos (mixL l) 4) g r) rfl rfl 93 _ r1 hi9 hfi (srow_one _ _ _) ?_) | fail)
      replace r1 := setRow_heap wr (w.heap.size + 1) _ (srow (wos (mixL l) 4) g r) _ _ r1
      replace hw := below_setRow hw (show w.heap.size ≤ w.heap.size + 1 by omega) (srow (wos (mixL l) 4) g r)
      generalize wr.setRow (w.heap.size + 1) (srow (wos (mixL l) 4) g r) = w9 at *
      exact bodyPost_ret (v := .agg (srow (wos (mixL l) 4) g r)) (results_cell_row Tryd.results58 _ _ (w.heap.size + 1) _ _ _ _ rfl r1 Tryd.underlying93 rfl hi9) rfl ⟨rfl, hw⟩


end Go.Proofs.YtamieopjigjfiaaDoor

