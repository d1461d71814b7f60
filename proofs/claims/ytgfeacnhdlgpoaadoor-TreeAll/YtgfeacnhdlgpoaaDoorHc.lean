import Derived.Test.YtgfeacnhdlgpoaaDoorProg
import Derived.WalkKit
import Derived.WalkSpells
import Derived.WalkLawsBesides
import Derived.Lib.QuietBelow
import Derived.BigQuiet
import Derived.Test.YtgfeacnhdlgpoaaDoorKa
import Derived.Test.YtgfeacnhdlgpoaaDoorHb
namespace Go.Proofs.YtgfeacnhdlgpoaaDoor
set_option maxRecDepth 100000
open Go Go.RowKit Go.Sort
attribute [local go_sem] setCell_drewN alloc_drewN

/-- The constants; the start. -/
def kl : List Int := [1116352408, 1899447441, 3049323471, 3921009573, 961987163, 1508970993, 2453635748, 2870763221, 3624381080, 310598401, 607225278, 1426881987, 1925078388, 2162078206, 2614888103, 3248222580, 3835390401, 4022224774, 264347078, 604807628, 770255983, 1249150122, 1555081692, 1996064986, 2554220882, 2821834349, 2952996808, 3210313671, 3336571891, 3584528711, 113926993, 338241895, 666307205, 773529912, 1294757372, 1396182291, 1695183700, 1986661051, 2177026350, 2456956037, 2730485921, 2820302411, 3259730800, 3345764771, 3516065817, 3600352804, 4094571909, 275423344, 430227734, 506948616, 659060556, 883997877, 958139571, 1322822218, 1537002063, 1747873779, 1955562222, 2024104815, 2227730452, 2361852424, 2428436474, 2756734187, 3204031479, 3329325298]
def sl : List Int := [1779033703, 3144134277, 1013904242, 2773480762, 1359893119, 2600822924, 528734635, 1541459225]
/-- What the package variables hold. -/
def Kon (W : World) : Prop := ∃ t fr, W.heap[1]? = some (.cells (irow .u32 kl) t fr)
def Sta (W : World) : Prop := ∃ t fr, W.heap[0]? = some (.cells (irow .u32 sl) t fr)
theorem Kon.sz {W : World} (h : Kon W) : 1 < W.heap.size := by obtain ⟨_, _, h⟩ := h; exact (Array.getElem?_eq_some_iff.1 h).1
theorem Kon.belowN {W W' : World} {n : Nat} (h : Kon W) (hn : 1 < n) (hb : Below n W W') : Kon W' := by obtain ⟨t, fr, h⟩ := h; exact ⟨t, fr, (hb.block 1 hn).trans h⟩
theorem Kon.below {W W' : World} (h : Kon W) (hb : Below W.heap.size W W') : Kon W' := h.belowN h.sz hb
theorem Sta.sz {W : World} (h : Sta W) : 0 < W.heap.size := by obtain ⟨_, _, h⟩ := h; exact (Array.getElem?_eq_some_iff.1 h).1
theorem Sta.belowN {W W' : World} {n : Nat} (h : Sta W) (hn : 0 < n) (hb : Below n W W') : Sta W' := by obtain ⟨t, fr, h⟩ := h; exact ⟨t, fr, (hb.block 0 hn).trans h⟩
theorem Sta.below {W W' : World} (h : Sta W) (hb : Below W.heap.size W W') : Sta W' := h.belowN h.sz hb
theorem Kon.cell {W : World} (h : Kon W) (j : Nat) (hj : j < 64) : W.cell? ⟨1, j, none⟩ = some (.int .u32 (kl.getD j 0)) := by
  obtain ⟨t, fr, h⟩ := h
  rw [cell_of_row _ _ _ _ _ _ h]
  exact irow_get _ _ _ hj
/-- A call where the constants lie. -/
def Gives1 (f : FuncId) (args : Array Value) (v : Value) : Prop := ∀ W, Kon W → Calls Tryd.prog f args W fun e w' => e = .returned v ∧ Below W.heap.size W w'
theorem Gives1.at {f : FuncId} {args : Array Value} {v : Value} (h : Gives1 f args v) {W : World} (hW : Kon W) : Calls Tryd.prog f args W fun e w' => e = .returned v ∧ Below W.heap.size W w' := h W hW
theorem Gives1.re {f : FuncId} {args : Array Value} {v : Value} (h : Gives1 f args v) {w : World} {d : Nat} {os : Array Obj} (hw : Kon w) : Calls Tryd.prog f args (grow (redrawn w d) os) fun e w'' => e = .returned v ∧ ∃ p : Regrown, w'' = grow (redrawn w p.d) p.os := Calls.regrown_of (h _ (hw.below (below_regrown w d os)))

/-- Eight words. -/
structure St8 where
  (a b c d e f g h : Int)
def notx (x : Int) : Int := bits .xor .u32 IntKind.u32.max x
def one1 (k w : Int) (s : St8) : Int := (s.h + up1 s.e + bits .xor .u32 (bits .and .u32 s.e s.f) (bits .and .u32 (notx s.e) s.g) + k + w) % 4294967296
def two2 (s : St8) : Int := (up0 s.a + bits .xor .u32 (bits .xor .u32 (bits .and .u32 s.a s.b) (bits .and .u32 s.a s.c)) (bits .and .u32 s.b s.c)) % 4294967296
def rnd (k w : Int) (s : St8) : St8 := ⟨(one1 k w s + two2 s) % 4294967296, s.a, s.b, s.c, (s.d + one1 k w s) % 4294967296, s.e, s.f, s.g⟩
def st0 (h : List Int) : St8 := ⟨h.getD 0 0, h.getD 1 0, h.getD 2 0, h.getD 3 0, h.getD 4 0, h.getD 5 0, h.getD 6 0, h.getD 7 0⟩
def rs (h : List Int) (W : Nat → Int) : Nat → St8
  | 0 => st0 h
  | t + 1 => rnd (kl.getD t 0) (W t) (rs h W t)
def St8.list (s : St8) : List Int := [s.a, s.b, s.c, s.d, s.e, s.f, s.g, s.h]
set_option maxRecDepth 100000 in
set_option maxHeartbeats 4000000 in
theorem a_mixed (h : List Int) (hl : h.length = 8) (W : Nat → Int) : Gives1 71 #[.agg (irow .u32 h), .agg (irow .u32 (prt W 64))] (.agg (irow .u32 (rs h W 64).list)) := by
  intro w hK
  have R0 := hp3_0 w (.cells (irow .u32 h) 99) (.cells (irow .u32 (prt W 64)) 111) (.cells (irow .u32 (zr 8)) 99)
  have R1 := hp3_1 w (.cells (irow .u32 h) 99) (.cells (irow .u32 (prt W 64)) 111) (.cells (irow .u32 (zr 8)) 99)
  have R2 := hp3_2 w (.cells (irow .u32 h) 99) (.cells (irow .u32 (prt W 64)) 111) (.cells (irow .u32 (zr 8)) 99)
  have HW : Below w.heap.size w (((w.alloc (.cells (irow .u32 h) 99)).alloc (.cells (irow .u32 (prt W 64)) 111)).alloc (.cells (irow .u32 (zr 8)) 99)) := ((((Below.refl _ _).alloc (Nat.le_refl _) _).alloc (by simp) _).alloc (by simp; omega) _)

  have f4 := hK.below HW
  clear hK
  go_enter Tryd.func71, Tryd.ntmps71
  go_wp2_with (first | (refine wpList_box rfl 99 _ rfl _ rfl (b23 _) ?_) | (refine wpList_box rfl 111 _ rfl _ rfl (b57 _) ?_) | (refine wpList_alloc rfl 99 rfl (irow .u32 (zr 8)) z23 ?_) | fail)
  simp only [size_alloc1, Act.put, List.setIfInBounds_toArray, List.set_cons_succ, List.set_cons_zero]
  generalize (((w.alloc (.cells (irow .u32 h) 99)).alloc (.cells (irow .u32 (prt W 64)) 111)).alloc (.cells (irow .u32 (zr 8)) 99)) = w0 at *
  have d0 := irow_cell R0 (j := 0) (by omega)
  have d1 := irow_cell R0 (j := 1) (by omega)
  have d2 := irow_cell R0 (j := 2) (by omega)
  have d3 := irow_cell R0 (j := 3) (by omega)
  have d4 := irow_cell R0 (j := 4) (by omega)
  have d5 := irow_cell R0 (j := 5) (by omega)
  have d6 := irow_cell R0 (j := 6) (by omega)
  have d7 := irow_cell R0 (j := 7) (by omega)
  have hst : rs h W 0 = st0 h := rfl
  unfold st0 at hst
  generalize h.getD 0 0 = z0 at *
  generalize h.getD 1 0 = z1 at *
  generalize h.getD 2 0 = z2 at *
  generalize h.getD 3 0 = z3 at *
  generalize h.getD 4 0 = z4 at *
  generalize h.getD 5 0 = z5 at *
  generalize h.getD 6 0 = z6 at *
  generalize h.getD 7 0 = z7 at *
  replace hst := hide hst
  have k0 : ∀ p : Regrown, (grow (redrawn w0 p.d) p.os).cell? ⟨w.heap.size, 0, none⟩ = some (.int .u32 z0) := fun p => cell_regrown (d0) p.d p.os
  have k1 : ∀ p : Regrown, (grow (redrawn w0 p.d) p.os).cell? ⟨w.heap.size, 1, none⟩ = some (.int .u32 z1) := fun p => cell_regrown (d1) p.d p.os
  have k2 : ∀ p : Regrown, (grow (redrawn w0 p.d) p.os).cell? ⟨w.heap.size, 2, none⟩ = some (.int .u32 z2) := fun p => cell_regrown (d2) p.d p.os
  have k3 : ∀ p : Regrown, (grow (redrawn w0 p.d) p.os).cell? ⟨w.heap.size, 3, none⟩ = some (.int .u32 z3) := fun p => cell_regrown (d3) p.d p.os
  have k4 : ∀ p : Regrown, (grow (redrawn w0 p.d) p.os).cell? ⟨w.heap.size, 4, none⟩ = some (.int .u32 z4) := fun p => cell_regrown (d4) p.d p.os
  have k5 : ∀ p : Regrown, (grow (redrawn w0 p.d) p.os).cell? ⟨w.heap.size, 5, none⟩ = some (.int .u32 z5) := fun p => cell_regrown (d5) p.d p.os
  have k6 : ∀ p : Regrown, (grow (redrawn w0 p.d) p.os).cell? ⟨w.heap.size, 6, none⟩ = some (.int .u32 z6) := fun p => cell_regrown (d6) p.d p.os
  have k7 : ∀ p : Regrown, (grow (redrawn w0 p.d) p.os).cell? ⟨w.heap.size, 7, none⟩ = some (.int .u32 z7) := fun p => cell_regrown (d7) p.d p.os
  refine wp_region_quiet_below (by kernel_rfl) (by kernel_rfl) ?_
  go_big_quiet_step (fail)
  go_big_quiet_step (fail)
  go_big_quiet_step (fail)
  go_big_quiet_step (fail)
  go_big_quiet_step (fail)
  go_big_quiet_step (fail)
  go_big_quiet_step (fail)
  go_big_quiet_step (fail)
  go_big_quiet_step (fail)
  go_big_quiet_step (fail)
  go_big_quiet_step (fail)
  go_big_quiet_step (fail)
  go_big_quiet_step (fail)
  go_big_quiet_step (fail)
  go_big_quiet_step (fail)
  go_big_quiet_step (fail)
  go_big_quiet_step (fail)
  go_big_quiet_step (fail)
  go_big_quiet_step (fail)
  go_big_quiet_step (fail)
  go_big_quiet_step (fail)
  go_big_quiet_step (fail)
  go_big_quiet_step (fail)
  go_big_quiet_step (fail)
  refine wpQuiet_nil ?_
  rintro _ ⟨p, rfl⟩
  have hb := below_regrown w0 p.d p.os
  generalize grow (redrawn w0 p.d) p.os = w1 at *
  clear k0 k1 k2 k3 k4 k5 k6 k7
  replace R1 := keep hb R1
  replace R2 := keep hb R2
  replace f4 := f4.below hb
  replace HW := Below.after HW hb
  clear hb

  clear d0 d1 d2 d3 d4 d5 d6 d7 R0
  go_wp2
  go_loopw [5, 6, 7, 8, 9, 10, 11, 12, 34] (fun va vb vc vd ve vf vg vh i wr => ∃ k : Nat, k ≤ 64 ∧ i = .int .i64 k ∧ va = .int .u32 (rs h W k).a ∧ vb = .int .u32 (rs h W k).b ∧ vc = .int .u32 (rs h W k).c ∧ vd = .int .u32 (rs h W k).d ∧ ve = .int .u32 (rs h W k).e ∧ vf = .int .u32 (rs h W k).f ∧ vg = .int .u32 (rs h W k).g ∧ vh = .int .u32 (rs h W k).h ∧ wr.heap[w.heap.size + 1]? = some (.cells (irow .u32 (prt W 64)) 111 (0, 0)) ∧ wr.heap[w.heap.size + 1 + 1]? = some (.cells (irow .u32 (zr 8)) 99 (0, 0)) ∧ Kon wr ∧ Below w.heap.size w wr) (fun _ _ _ _ _ _ _ _ i _ => 64 - (intOf i).toNat)
  case atStart => exact ⟨0, by omega, rfl, by rw [hst.out], by rw [hst.out], by rw [hst.out], by rw [hst.out], by rw [hst.out], by rw [hst.out], by rw [hst.out], by rw [hst.out], R1, R2, f4, HW⟩
  case round =>
    clear R1 R2 HW f4 hst
    obtain ⟨k, hk, rfl, rfl, rfl, rfl, rfl, rfl, rfl, rfl, rfl, r1, r2, f4, hw⟩ := hrel
    by_cases hlt : k < 64
    · have hd : decide ((k : Int) < 64) = true := by simp; omega
      have hn : rs h W (k + 1) = rnd (kl.getD k 0) (W k) (rs h W k) := rfl
      generalize rs h W k = sk at *
      obtain ⟨a, b, c, d, e, f, g, x⟩ := sk
      dsimp only at *
      have c6 := a_right e 6 (by decide) (by decide)
      have c11 := a_right e 11 (by decide) (by decide)
      have c25 := a_right e 25 (by decide) (by decide)
      have c2 := a_right a 2 (by decide) (by decide)
      have c13 := a_right a 13 (by decide) (by decide)
      have c22 := a_right a 22 (by decide) (by decide)
      simp only [rnd, one1, two2, up0, up1, notx] at hn
      generalize rot e 6 = q6 at *
      generalize rot e 11 = q11 at *
      generalize rot e 25 = q25 at *
      generalize rot a 2 = q2 at *
      generalize rot a 13 = q13 at *
      generalize rot a 22 = q22 at *
      replace hn := hide hn
      go_wp2_with (fail)
      refine (c6.at _).mono ?_
      rintro e_ w2 ⟨rfl, hb⟩
      replace r1 := keep hb r1
      replace r2 := keep hb r2
      replace f4 := f4.below hb
      replace hw := Below.after hw hb
      clear hb

      go_wp2_with (fail)
      refine (c11.at _).mono ?_
      rintro e_ w3 ⟨rfl, hb⟩
      replace r1 := keep hb r1
      replace r2 := keep hb r2
      replace f4 := f4.below hb
      replace hw := Below.after hw hb
      clear hb

      go_wp2_with (fail)
      refine (c25.at _).mono ?_
      rintro e_ w4_ ⟨rfl, hb⟩
      replace r1 := keep hb r1
      replace r2 := keep hb r2
      replace f4 := f4.below hb
      replace hw := Below.after hw hb
      clear hb

      have dk := f4.cell k hlt
      have dw := irow_cell r1 (j := k) (by rw [prt_len]; omega)
      rw [prt_get _ _ hlt hlt] at dw
      generalize kl.getD k 0 = K at *
      generalize W k = wk at *
      go_wp2
      have k0 : ∀ p : Regrown, (grow (redrawn w4_ p.d) p.os).cell? ⟨1, k, none⟩ = some (.int .u32 K) := fun p => cell_regrown (dk) p.d p.os
      have k1 : ∀ p : Regrown, (grow (redrawn w4_ p.d) p.os).cell? ⟨w.heap.size + 1, k, none⟩ = some (.int .u32 wk) := fun p => cell_regrown (dw) p.d p.os
      refine wp_region_quiet_below (by kernel_rfl) (by kernel_rfl) ?_
      go_big_quiet_step (fail)
      go_big_quiet_step (fail)
      go_big_quiet_step (fail)
      go_big_quiet_step (fail)
      go_big_quiet_step (fail)
      go_big_quiet_step (fail)
      go_big_quiet_step (fail)
      go_big_quiet_step (fail)
      go_big_quiet_step (fail)
      go_big_quiet_step (fail)
      go_big_quiet_step (fail)
      go_big_quiet_step (fail)
      go_big_quiet_step (fail)
      go_big_quiet_step (fail)
      go_big_quiet_step (fail)
      go_big_quiet_step (fail)
      go_big_quiet_step (fail)
      go_big_quiet_step (fail)
      go_big_quiet_step (fail)
      go_big_quiet_step (fail)
      go_big_quiet_step (fail)
      refine wpQuiet_nil ?_
      rintro _ ⟨p, rfl⟩
      have hb := below_regrown w4_ p.d p.os
      generalize grow (redrawn w4_ p.d) p.os = w5 at *
      clear k0 k1
      replace r1 := keep hb r1
      replace r2 := keep hb r2
      replace f4 := f4.below hb
      replace hw := Below.after hw hb
      clear hb

      clear dk dw
      go_wp2_with (fail)
      refine (c2.at _).mono ?_
      rintro e_ w6 ⟨rfl, hb⟩
      replace r1 := keep hb r1
      replace r2 := keep hb r2
      replace f4 := f4.below hb
      replace hw := Below.after hw hb
      clear hb

      go_wp2_with (fail)
      refine (c13.at _).mono ?_
      rintro e_ w7 ⟨rfl, hb⟩
      replace r1 := keep hb r1
      replace r2 := keep hb r2
      replace f4 := f4.below hb
      replace hw := Below.after hw hb
      clear hb

      go_wp2_with (fail)
      refine (c22.at _).mono ?_
      rintro e_ w8 ⟨rfl, hb⟩
      replace r1 := keep hb r1
      replace r2 := keep hb r2
      replace f4 := f4.below hb
      replace hw := Below.after hw hb
      clear hb

      go_wp2
      refine ⟨?rel, ?measure⟩
      case rel =>
        refine ⟨k + 1, by omega, by go_num, ?_, ?_, ?_, ?_, ?_, ?_, ?_, ?_, r1, r2, f4, hw⟩
        all_goals (rw [hn.out])
      case measure => simp [intOf]; omega
    · obtain rfl : k = 64 := by omega
      have hd : decide ((64 : Int) < 64) = false := by decide
      have hfin : irow .u32 (rs h W 64).list = (irow .u32 [(rs h W 64).a, (rs h W 64).b, (rs h W 64).c, (rs h W 64).d, (rs h W 64).e, (rs h W 64).f, (rs h W 64).g, (rs h W 64).h]) := rfl
      have hi8 : (Tryd.prog.info? 99).map (·.size) = some ((irow .u32 [(rs h W 64).a, (rs h W 64).b, (rs h W 64).c, (rs h W 64).d, (rs h W 64).e, (rs h W 64).f, (rs h W 64).g, (rs h W 64).h]) : Array Value).size := by kernel_rfl
      generalize (rs h W 64).a = za at *
      generalize (rs h W 64).b = zb at *
      generalize (rs h W 64).c = zc at *
      generalize (rs h W 64).d = zd at *
      generalize (rs h W 64).e = ze at *
      generalize (rs h W 64).f = zf at *
      generalize (rs h W 64).g = zg at *
      generalize (rs h W 64).h = zh at *
      replace hfin := hide hfin
      go_wp2_with (first | (refine wpList_store_row rfl 99 _ _ rfl (w.heap.size + 1 + 1) (irow .u32 [za, zb, zc, zd, ze, zf, zg, zh]) rfl rfl 99 _ r2 hi8 (by rw [irow_size, irow_size]; rfl) (irow_one _ _) ?_) | fail)
      replace r2 := setRow_heap wr (w.heap.size + 1 + 1) _ (irow .u32 [za, zb, zc, zd, ze, zf, zg, zh]) _ _ r2
      replace hw := below_setRow hw (show w.heap.size ≤ w.heap.size + 1 + 1 by omega) (irow .u32 [za, zb, zc, zd, ze, zf, zg, zh])
      generalize wr.setRow (w.heap.size + 1 + 1) (irow .u32 [za, zb, zc, zd, ze, zf, zg, zh]) = w9 at *
      exact bodyPost_ret (v := .agg (irow .u32 [za, zb, zc, zd, ze, zf, zg, zh])) (results_cell_row Tryd.results71 _ _ (w.heap.size + 1 + 1) _ _ _ _ rfl r2 Tryd.underlying99 rfl hi8) rfl ⟨by rw [hfin.out], hw⟩

end Go.Proofs.YtgfeacnhdlgpoaaDoor

