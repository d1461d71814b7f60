import Derived.Test.YtamieopjigjfiabDoorProg
import Derived.WalkKit
import Derived.WalkSpells
import Derived.WalkLawsBesides
import Derived.Lib.QuietBelow
import Derived.BigQuiet
import Derived.Test.YtamieopjigjfiabDoorKa
import Derived.Test.YtamieopjigjfiabDoorWh
import Derived.Test.YtamieopjigjfiabDoorWf
namespace Go.Proofs.YtamieopjigjfiabDoor
set_option maxRecDepth 100000
open Go Go.RowKit Go.Sort
attribute [local go_sem] setCell_drewN alloc_drewN


/-! Columns of bytes. -/
theorem put4_get (l : List B) (i : Nat) (x : B × B × B × B) (h : 4 * i + 3 < l.length) (j : Nat) : (put4 l i x).getD j 0#8 = if j = 4 * i then x.1 else if j = 4 * i + 1 then x.2.1 else if j = 4 * i + 2 then x.2.2.1 else if j = 4 * i + 3 then x.2.2.2 else l.getD j 0#8 := by
  simp only [put4, List.getD_eq_getElem?_getD, List.getElem?_set, List.length_set]
  by_cases h3 : 4 * i + 3 = j
  · rw [if_pos h3, if_pos (by omega), if_neg (by omega), if_neg (by omega), if_neg (by omega), if_pos h3.symm]; rfl
  · rw [if_neg h3]
    by_cases h2 : 4 * i + 2 = j
    · rw [if_pos h2, if_pos (by omega), if_neg (by omega), if_neg (by omega), if_pos h2.symm]; rfl
    · rw [if_neg h2]
      by_cases h1 : 4 * i + 1 = j
      · rw [if_pos h1, if_pos (by omega), if_neg (by omega), if_pos h1.symm]; rfl
      · rw [if_neg h1]
        by_cases h0 : 4 * i = j
        · rw [if_pos h0, if_pos (by omega), if_pos h0.symm]; rfl
        · rw [if_neg h0, if_neg (Ne.symm h0), if_neg (Ne.symm h1), if_neg (Ne.symm h2), if_neg (Ne.symm h3)]
def wdc (x : B × B × B × B) : Wd := wd x.1 x.2.1 x.2.2.1 x.2.2.2
theorem wo_col (l : List B) (i : Nat) : wo l i = wdc (colOf l i) := rfl
theorem wo_put4 (l : List B) (i : Nat) (x : B × B × B × B) (h : 4 * i + 3 < l.length) (j : Nat) : wo (put4 l i x) j = if j = i then wdc x else wo l j := by
  unfold wo
  rw [put4_get l i x h, put4_get l i x h, put4_get l i x h, put4_get l i x h]
  by_cases e : j = i
  · subst e
    rw [if_pos rfl, if_pos rfl, if_neg (by omega), if_pos rfl, if_neg (by omega), if_neg (by omega), if_pos rfl, if_neg (by omega), if_neg (by omega), if_neg (by omega), if_pos rfl]; rfl
  · rw [if_neg e, if_neg (by omega), if_neg (by omega), if_neg (by omega), if_neg (by omega), if_neg (by omega), if_neg (by omega), if_neg (by omega), if_neg (by omega), if_neg (by omega), if_neg (by omega), if_neg (by omega), if_neg (by omega), if_neg (by omega), if_neg (by omega), if_neg (by omega), if_neg (by omega)]
theorem wos_put4 (l : List B) (i : Nat) (x : B × B × B × B) (hl : l.length = 240) (h : i < 60) : (wos l 60).set i (wdc x) = wos (put4 l i x) 60 := by
  apply List.ext_getElem?
  intro j
  rw [List.getElem?_set]
  simp only [wos, List.getElem?_map, List.length_map, List.length_range]
  by_cases e : i = j
  · subst e
    rw [if_pos rfl, if_pos h, List.getElem?_range h, Option.map_some, wo_put4 l i x (by omega), if_pos rfl]
  · rw [if_neg e]
    by_cases hj : j < 60
    · rw [List.getElem?_range hj, Option.map_some, Option.map_some, wo_put4 l i x (by omega), if_neg (Ne.symm e)]
    · rw [List.getElem?_eq_none (by simp; omega)]; rfl
/-- The first eight columns are the key's. -/
theorem ks_low (key : List B) (n : Nat) (hn : n ≤ 8) (j : Nat) : (ks key n).getD j 0#8 = if j < 4 * n then key.getD j 0#8 else 0#8 := by
  induction n with
  | zero =>
    rw [if_neg (by omega), ks, List.getD_eq_getElem?_getD, List.getElem?_replicate]
    by_cases h : j < 240
    · rw [if_pos h]; rfl
    · rw [if_neg h]; rfl
  | succ n ih =>
    have hc : colK key (ks key n) n = colOf key n := by rw [colK, if_pos (by omega)]
    rw [ks, put4_get _ _ _ (by rw [ks_len]; omega), hc, ih (by omega)]
    by_cases h0 : j = 4 * n
    · rw [if_pos h0, if_pos (by omega), h0]; rfl
    · rw [if_neg h0]
      by_cases h1 : j = 4 * n + 1
      · rw [if_pos h1, if_pos (by omega), h1]; rfl
      · rw [if_neg h1]
        by_cases h2 : j = 4 * n + 2
        · rw [if_pos h2, if_pos (by omega), h2]; rfl
        · rw [if_neg h2]
          by_cases h3 : j = 4 * n + 3
          · rw [if_pos h3, if_pos (by omega), h3]; rfl
          · rw [if_neg h3]
            by_cases h4 : j < 4 * n
            · rw [if_pos h4, if_pos (by omega)]
            · rw [if_neg h4, if_neg (by omega)]
theorem shw_ks (key : List B) : shw key 60 32 = wos (ks key 8) 60 := by
  apply List.map_congr_left
  intro j hj
  rw [List.mem_range] at hj
  unfold wo
  rw [ks_low key 8 (by omega), ks_low key 8 (by omega), ks_low key 8 (by omega), ks_low key 8 (by omega)]
  by_cases h : j < 8
  · rw [if_pos (by omega), if_pos (by omega), if_pos (by omega), if_pos (by omega), show min 4 (32 - 4 * j) = 4 by omega]; rfl
  · rw [if_neg (by omega), if_neg (by omega), if_neg (by omega), if_neg (by omega), show min 4 (32 - 4 * j) = 0 by omega]; rfl
theorem mrk_next (i : Nat) (h : 8 ≤ i) : mrk (i + 1) = if i % 8 = 0 then dbl (mrk i) else mrk i := by
  unfold mrk
  by_cases e : i % 8 = 0
  · rw [if_pos e, show (i + 1 - 1) / 8 = (i - 1) / 8 + 1 by omega]; rfl
  · rw [if_neg e, show (i + 1 - 1) / 8 = (i - 1) / 8 by omega]
theorem ks_next (key : List B) (i : Nat) (h : 8 ≤ i) : ks key (i + 1) = put4 (ks key i) i (xorC (colOf (ks key i) (i - 8)) (turnC i (colOf (ks key i) (i - 1)))) := by
  rw [ks, colK, if_neg (by omega)]
theorem wdc_xor (x y : B × B × B × B) : wdc (xorC x y) = wdc x ^^^ wdc y := by
  unfold wdc xorC; rw [wd_xor]
/-- Words of which the first are W's. -/
def ptw (W : Nat → Wd) (n t : Nat) : List Wd := (List.range n).map fun j => if j < t then W j else 0#32
theorem ptw_len (W : Nat → Wd) (n t : Nat) : (ptw W n t).length = n := by simp [ptw]
theorem ptw_zero (W : Nat → Wd) (n : Nat) : ptw W n 0 = List.replicate n 0#32 := by
  apply List.ext_getElem (by simp [ptw])
  intro i h1 h2
  simp [ptw]
theorem ptw_full (l : List B) (n : Nat) : ptw (wo l) n n = wos l n := by
  apply List.map_congr_left
  intro j hj
  rw [List.mem_range] at hj
  rw [if_pos hj]
theorem ptw_set (W : Nat → Wd) (n t : Nat) (h : t < n) : (ptw W n t).set t (W t) = ptw W n (t + 1) := by
  apply List.ext_getElem?
  intro j
  rw [List.getElem?_set]
  by_cases e : t = j
  · subst e
    rw [if_pos rfl, if_pos (by rw [ptw_len]; exact h)]
    simp [ptw, h]
  · rw [if_neg e]
    simp only [ptw, List.getElem?_map]
    by_cases hj : j < n
    · simp only [List.getElem?_range hj, Option.map_some]
      by_cases h1 : j < t
      · rw [if_pos h1, if_pos (by omega)]
      · rw [if_neg h1, if_neg (by omega)]
    · rw [List.getElem?_eq_none (by simp; omega)]; rfl
theorem bKey (cs : Array Value) (W : World) : (Instr.box 23 (.agg cs)).run Tryd.prog W = .ok (.pointer (some ⟨W.heap.size, 0, none⟩)) (W.alloc (.cells cs 23)) := by kernel_rfl
theorem z60 (W : World) : (Instr.alloc 96 true (.tuple #[])).run Tryd.prog W = .ok (.pointer (some ⟨W.heap.size, 0, none⟩)) (W.alloc (.cells (irow .u32 (zr 60)) 96)) := by kernel_rfl
theorem z15 (W : World) : (Instr.alloc 73 true (.tuple #[])).run Tryd.prog W = .ok (.pointer (some ⟨W.heap.size, 0, none⟩)) (W.alloc (.cells (irow .u32 (zr 60)) 73)) := by kernel_rfl
theorem infoKy : (Tryd.prog.info? 23).map (·.size) = some 32 := by kernel_rfl
theorem info60 : (Tryd.prog.info? 96).map (·.size) = some 60 := by kernel_rfl
theorem info15 : (Tryd.prog.info? 73).map (·.size) = some 60 := by kernel_rfl
theorem indexK (l : List B) (hl : l.length = 32) (j : Nat) (hj : j < 32) (W : World) : (Instr.index 23 (.agg (irow .u8 (bl l))) (.int .i64 (j : Int))).run Tryd.prog W = .ok (.int .u8 (bv (l.getD j 0#8))) W := by
  obtain ⟨i0, hi⟩ : ∃ i, Tryd.prog.info? 5 = some i := ⟨_, rfl⟩
  rw [← bl_get]
  exact index_row Tryd.underlying23 Tryd.underlying5 hi (fun W => by kernel_rfl) (bl l) (by rw [bl_len, hl]) j hj W
theorem index60 (l : List Wd) (hl : l.length = 60) (j : Nat) (hj : j < 60) (W : World) : (Instr.index 96 (.agg (irow .u32 (wl l))) (.int .i64 (j : Int))).run Tryd.prog W = .ok (.int .u32 (wv (l.getD j 0#32))) W := by
  obtain ⟨i0, hi⟩ : ∃ i, Tryd.prog.info? 70 = some i := ⟨_, rfl⟩
  rw [← wl_get]
  exact index_row Tryd.underlying96 Tryd.underlying70 hi (fun W => by kernel_rfl) (wl l) (by rw [wl_len, hl]) j hj W
theorem mark_hi (a b c d m : B) : bits .xor .u32 (wv (wd a b c d)) (bv m * 16777216) = wv (wd (a ^^^ m) b c d) := by
  rw [wd_hi, xor32, wd_xor]; simp

set_option maxRecDepth 100000 in
set_option maxHeartbeats 4000000 in
theorem a_roundKeys (key : List B) (hl : key.length = 32) (g off : Nat) (w : World) (hg : g < w.heap.size) (ht : (∀ x : B, w.cell? ⟨g, off + x.toNat, none⟩ = some (.int .u8 (bv (sb x))))) : Calls Tryd.prog 32 #[.agg (irow .u8 (bl (key))), .pointer (some ⟨g, off, none⟩)] w fun e w' => e = .returned (.agg (irow .u32 (wl (wos (ks key 60) 60)))) ∧ Below w.heap.size w w' := by
  have hz : ∀ W : World, (Instr.alloc 96 true (.tuple #[])).run Tryd.prog W = .ok (.pointer (some ⟨W.heap.size, 0, none⟩)) (W.alloc (.cells (irow .u32 (wl (shw key 60 0))) 96)) := by rw [shw_zero, wl_zr]; exact z60
  have R0 := hp3_0 w (.cells (irow .u8 (bl (key))) 23) (.cells (irow .u32 (zr 60)) 73) (.cells (irow .u32 (wl (shw key 60 0))) 96)
  have R1 := hp3_1 w (.cells (irow .u8 (bl (key))) 23) (.cells (irow .u32 (zr 60)) 73) (.cells (irow .u32 (wl (shw key 60 0))) 96)
  have R2 := hp3_2 w (.cells (irow .u8 (bl (key))) 23) (.cells (irow .u32 (zr 60)) 73) (.cells (irow .u32 (wl (shw key 60 0))) 96)
  have hw : Below w.heap.size w (((w.alloc (.cells (irow .u8 (bl (key))) 23)).alloc (.cells (irow .u32 (zr 60)) 73)).alloc (.cells (irow .u32 (wl (shw key 60 0))) 96)) := ((((Below.refl _ _).alloc (Nat.le_refl _) _).alloc (by simp) _).alloc (by simp; omega) _)

  have hi0 := info_bl infoKy key hl
  have hT : Hid (∀ W, Below w.heap.size w W → (∀ x : B, W.cell? ⟨g, off + x.toNat, none⟩ = some (.int .u8 (bv (sb x))))) := hide (fun W hb x => (hb.cell hg).trans (ht x))
  clear ht
  go_enter Tryd.func32, Tryd.ntmps32
  go_wp2_with (first | (refine wpList_box rfl 23 _ rfl _ rfl (bKey _) ?_) | (refine wpList_alloc rfl 73 rfl (irow .u32 (zr 60)) z15 ?_) | (refine wpList_alloc rfl 96 rfl (irow .u32 (wl (shw key 60 0))) hz ?_) | (refine wpList_load_want rfl 23 _ rfl (w.heap.size) rfl 23 (irow .u8 (bl (key))) (0, 0) _ R0 Tryd.underlying23 rfl hi0 ?_) | fail)
  try simp only [size_alloc1, Act.put, List.setIfInBounds_toArray, List.set_cons_succ, List.set_cons_zero]
  clear hz R0
  generalize World.alloc _ _ = w0 at *
  go_loopw [15] (fun i wr => ∃ k : Nat, k ≤ 32 ∧ i = .int .i64 k ∧ wr.heap[w.heap.size + 1]? = some (.cells (irow .u32 (zr 60)) 73 (0, 0)) ∧ wr.heap[w.heap.size + 1 + 1]? = some (.cells (irow .u32 (wl (shw key 60 k))) 96 (0, 0)) ∧ Below w.heap.size w wr) (fun i _ => 32 - (intOf i).toNat)
  case atStart => exact ⟨0, by omega, rfl, R1, R2, hw⟩
  case round =>
    clear R1 R2 hw
    obtain ⟨k, hk, rfl, r1, r2, hw⟩ := hrel
    by_cases hlt : k < 32
    · have hd : decide ((k : Int) < 32) = true := by simp; omega
      have hix := indexK key hl k hlt wr
      have hq : (k : Int).tdiv 4 = ((k / 4 : Nat) : Int) := by rw [Int.tdiv_eq_ediv_of_nonneg (by omega)]; rfl
      have c0 := wrow_cell r2 (j := k / 4) (by rw [shw_len]; omega)
      rw [shw_get key 60 k (k / 4) (by omega), show min 4 (k - 4 * (k / 4)) = k % 4 by omega] at c0
      have hs := sh_step key (k / 4) (k % 4) (by omega)
      rw [show 4 * (k / 4) + k % 4 = k by omega] at hs
      have hset := hide (shw_set key 60 k (by omega))
      have hf := row_frozen r2 (k / 4)
      have b1 := bnd (key.getD k 0#8)
      have b2 := wnd (sh key (k / 4) (k % 4))
      generalize sh key (k / 4) (k % 4) = S0 at *
      generalize sh key (k / 4) (k % 4 + 1) = S1 at *
      generalize key.getD k 0#8 = x at *
      go_wp2
      refine ⟨⟨k + 1, by omega, by go_num, heap_other r1 (by omega), by rw [← hset.out]; exact wrow_set r2 (k / 4) S1, hw.setCell (show w.heap.size ≤ w.heap.size + 1 + 1 by omega) _⟩, by simp [intOf]; omega⟩
    · obtain rfl : k = 32 := by omega
      have hd : decide ((32 : Int) < 32) = false := by decide
      rw [shw_ks] at r2
      clear hk hlt
      go_wp2_with (fail)
      go_loopw [8, 9] (fun m i wr => ∃ k : Nat, 8 ≤ k ∧ k ≤ 60 ∧ i = .int .i64 k ∧ m = .int .u8 (bv (mrk k)) ∧ wr.heap[w.heap.size + 1]? = some (.cells (irow .u32 (zr 60)) 73 (0, 0)) ∧ wr.heap[w.heap.size + 1 + 1]? = some (.cells (irow .u32 (wl (wos (ks key k) 60))) 96 (0, 0)) ∧ Below w.heap.size w wr) (fun _ i _ => 60 - (intOf i).toNat)
      case atStart => exact ⟨8, by omega, by omega, rfl, rfl, r1, r2, hw⟩
      case round =>
        clear r1 r2 hw
        obtain ⟨k, hk8, hk, rfl, rfl, r1, r2, hw⟩ := hrel
        by_cases hlt : k < 60
        · have hd : decide ((k : Int) < 60) = true := by simp; omega
          have c1 := wrow_cell r2 (j := k - 1) (by rw [wos_len]; omega)
          rw [wos_get _ _ _ (by omega)] at c1
          have hm8 : (k : Int).tmod 8 = ((k % 8 : Nat) : Int) := by rw [Int.tmod_eq_emod_of_nonneg (by omega)]; rfl
          have hm4 : (k : Int).tmod 4 = ((k % 4 : Nat) : Int) := by rw [Int.tmod_eq_emod_of_nonneg (by omega)]; rfl
          obtain ⟨a, b, c, d, hcol⟩ : ∃ a b c d, colOf (ks key k) (k - 1) = (a, b, c, d) := ⟨_, _, _, _, rfl⟩
          have hw1 : wo (ks key k) (k - 1) = wd a b c d := by rw [wo_col, hcol]; rfl
          rw [hw1] at c1
          have hfin : Hid (∀ T, T = wdc (turnC k (a, b, c, d)) → (wos (ks key k) 60).set k (wo (ks key k) (k - 8) ^^^ T) = wos (ks key (k + 1)) 60) := hide (fun T hT => by
            rw [ks_next key k hk8, ← wos_put4 (ks key k) k _ (ks_len key k) hlt, wdc_xor, ← wo_col, hcol, hT])
          have hmn := hide (mrk_next k hk8)
          clear hcol hw1
          have bm := bnd (mrk k)
          have bw := wnd (wd a b c d)
          by_cases h8 : k % 8 = 0
          · have hd8 : decide (((k % 8 : Nat) : Int) = 0) = true := by rw [h8]; rfl
            have hT2 : Hid (wd (sb b ^^^ mrk k) (sb c) (sb d) (sb a) = wdc (turnC k (a, b, c, d))) := hide (by rw [turnC, if_pos h8]; rfl)
            have hfi := hide (hfin.out _ hT2.out)
            rw [if_pos h8] at hmn
            clear hfin hT2
            have l1 := a_left1 a b c d
            have tw := a_twice (mrk k)
            have hmk := mark_hi (sb b) (sb c) (sb d) (sb a) (mrk k)
            go_wp2_with (fail)
            refine (l1.at _).mono ?_
            rintro e_ w1 ⟨rfl, hb⟩
            replace r1 := keep hb r1
            replace r2 := keep hb r2
            replace hw := Below.after hw hb

            clear hb
            go_wp2_with (fail)
            refine (a_through sb g off b c d a _ (hT.out _ hw)).mono ?_
            rintro e_ w2 ⟨rfl, hb⟩
            replace r1 := keep hb r1
            replace r2 := keep hb r2
            replace hw := Below.after hw hb
            clear hb
            go_wp2_with (fail)
            refine (tw.at _).mono ?_
            rintro e_ w3 ⟨rfl, hb⟩
            replace r1 := keep hb r1
            replace r2 := keep hb r2
            replace hw := Below.after hw hb

            clear hb
            have hx := xor32 (wo (ks key k) (k - 8)) (wd (sb b ^^^ mrk k) (sb c) (sb d) (sb a))
            have c8 := wrow_cell r2 (j := k - 8) (by rw [wos_len]; omega)
            rw [wos_get _ _ _ (by omega)] at c8
            have cw := wrow_cell r2 (j := k) (by rw [wos_len]; omega)
            have hf := row_frozen r2 k
            generalize wo (ks key k) (k - 8) = E at *
            generalize wd (sb b ^^^ mrk k) (sb c) (sb d) (sb a) = T at *
            generalize E ^^^ T = ET at *
            clear c1
            go_wp2
            refine ⟨?_, ?measure⟩
            apply Exists.intro
            apply Exists.intro
            repeat apply Exists.intro
            refine ⟨?rel, rfl⟩
            case rel => exact ⟨k + 1, by omega, by omega, by go_num, by rw [hmn.out], heap_other r1 (by omega), by rw [← hfi.out]; exact wrow_set r2 k ET, hw.setCell (show w.heap.size ≤ w.heap.size + 1 + 1 by omega) _⟩
            case measure => simp [intOf]; omega
          · have hd8 : decide (((k % 8 : Nat) : Int) = 0) = false := by simp; omega
            rw [if_neg h8] at hmn
            by_cases h4 : k % 4 = 0
            · have hd4 : decide (((k % 4 : Nat) : Int) = 0) = true := by rw [h4]; rfl
              have hT2 : Hid (wd (sb a) (sb b) (sb c) (sb d) = wdc (turnC k (a, b, c, d))) := hide (by rw [turnC, if_neg h8, if_pos h4]; rfl)
              have hfi := hide (hfin.out _ hT2.out)
              clear hfin hT2
              go_wp2_with (fail)
              refine (a_through sb g off a b c d _ (hT.out _ hw)).mono ?_
              rintro e_ w2 ⟨rfl, hb⟩
              replace r1 := keep hb r1
              replace r2 := keep hb r2
              replace hw := Below.after hw hb
              clear hb
              have hx := xor32 (wo (ks key k) (k - 8)) (wd (sb a) (sb b) (sb c) (sb d))
              have c8 := wrow_cell r2 (j := k - 8) (by rw [wos_len]; omega)
              rw [wos_get _ _ _ (by omega)] at c8
              have cw := wrow_cell r2 (j := k) (by rw [wos_len]; omega)
              have hf := row_frozen r2 k
              generalize wo (ks key k) (k - 8) = E at *
              generalize wd (sb a) (sb b) (sb c) (sb d) = T at *
              generalize E ^^^ T = ET at *
              clear c1
              go_wp2
              refine ⟨?_, ?measure⟩
              apply Exists.intro
              apply Exists.intro
              repeat apply Exists.intro
              refine ⟨?rel, rfl⟩
              case rel => exact ⟨k + 1, by omega, by omega, by go_num, by rw [hmn.out], heap_other r1 (by omega), by rw [← hfi.out]; exact wrow_set r2 k ET, hw.setCell (show w.heap.size ≤ w.heap.size + 1 + 1 by omega) _⟩
              case measure => simp [intOf]; omega
            · have hd4 : decide (((k % 4 : Nat) : Int) = 0) = false := by simp; omega
              have hT2 : Hid (wd a b c d = wdc (turnC k (a, b, c, d))) := hide (by rw [turnC, if_neg h8, if_neg h4]; rfl)
              have hfi := hide (hfin.out _ hT2.out)
              clear hfin hT2
              have hx := xor32 (wo (ks key k) (k - 8)) (wd a b c d)
              have c8 := wrow_cell r2 (j := k - 8) (by rw [wos_len]; omega)
              rw [wos_get _ _ _ (by omega)] at c8
              have cw := wrow_cell r2 (j := k) (by rw [wos_len]; omega)
              have hf := row_frozen r2 k
              generalize wo (ks key k) (k - 8) = E at *
              generalize wd a b c d = T at *
              generalize E ^^^ T = ET at *
              go_wp2
              refine ⟨⟨k + 1, by omega, by omega, by go_num, by rw [hmn.out], heap_other r1 (by omega), by rw [← hfi.out]; exact wrow_set r2 k ET, hw.setCell (show w.heap.size ≤ w.heap.size + 1 + 1 by omega) _⟩, by simp [intOf]; omega⟩
        · obtain rfl : k = 60 := by omega
          have hd : decide ((60 : Int) < 60) = false := by decide
          have hz2 : ∀ W : World, (Instr.alloc 73 true (.tuple #[])).run Tryd.prog W = .ok (.pointer (some ⟨W.heap.size, 0, none⟩)) (W.alloc (.cells (irow .u32 (wl (ptw (wo (ks key 60)) 60 0))) 73)) := by rw [ptw_zero, wl_zr]; exact z15
          have hi6 := info_wl info60 (wos (ks key 60) 60) (wos_len _ _)
          have HB : Below wr.heap.size wr (wr.alloc (.cells (irow .u32 (wl (ptw (wo (ks key 60)) 60 0))) 73)) := (Below.refl _ _).alloc (Nat.le_refl _) _
          have R3 := hp1_0 wr (.cells (irow .u32 (wl (ptw (wo (ks key 60)) 60 0))) 73)
          have Q2 := keep HB r2
          have l2 := lt_of_row r2
          clear hk hlt hk8
          go_wp2_with (first | (refine wpList_alloc rfl 73 rfl (irow .u32 (wl (ptw (wo (ks key 60)) 60 0))) hz2 ?_) | (refine wpList_load_want rfl 96 _ rfl (w.heap.size + 1 + 1) rfl 96 (irow .u32 (wl (wos (ks key 60) 60))) (0, 0) _ Q2 Tryd.underlying96 rfl hi6 ?_) | fail)
          replace r1 := keep HB r1
          replace hw := Below.after hw HB
          clear hz2 Q2 r2 HB
          generalize World.alloc _ _ = w5 at *
          generalize wr.heap.size = gK at *
          go_loopw [67] (fun i wr => ∃ k : Nat, k ≤ 60 ∧ i = .int .i64 k ∧ wr.heap[w.heap.size + 1]? = some (.cells (irow .u32 (zr 60)) 73 (0, 0)) ∧ wr.heap[gK]? = some (.cells (irow .u32 (wl (ptw (wo (ks key 60)) 60 k))) 73 (0, 0)) ∧ Below w.heap.size w wr) (fun i _ => 60 - (intOf i).toNat)
          case atStart => exact ⟨0, by omega, rfl, r1, R3, hw⟩
          case round =>
            clear r1 R3 hw
            obtain ⟨k, hk, rfl, r1, r3, hw⟩ := hrel
            by_cases hlt : k < 60
            · have hd : decide ((k : Int) < 60) = true := by simp; omega
              have hix := index60 (wos (ks key 60) 60) (wos_len _ _) k hlt wr
              rw [wos_get _ _ _ hlt] at hix
              have hq : (k : Int).tdiv 4 = ((k / 4 : Nat) : Int) := by rw [Int.tdiv_eq_ediv_of_nonneg (by omega)]; rfl
              have hr : (k : Int).tmod 4 = ((k % 4 : Nat) : Int) := by rw [Int.tmod_eq_emod_of_nonneg (by omega)]; rfl
              have cw := wrow_cell r3 (j := k) (by rw [ptw_len]; omega)
              have hf := row_frozen r3 k
              have hset := hide (ptw_set (wo (ks key 60)) 60 k hlt)
              have hdm : k / 4 * 4 + k % 4 = k := by omega
              generalize wo (ks key 60) k = z at *
              go_wp2
              refine ⟨⟨k + 1, by omega, by go_num, heap_other r1 (by omega), by rw [← hset.out]; exact wrow_set r3 k z, hw.setCell (show w.heap.size ≤ gK by omega) _⟩, by simp [intOf]; omega⟩
            · obtain rfl : k = 60 := by omega
              have hd : decide ((60 : Int) < 60) = false := by decide
              rw [ptw_full] at r3
              have hi9 := info_wl info15 (wos (ks key 60) 60) (wos_len _ _)
              have hfi : (irow .u32 (zr 60)).size = (irow .u32 (wl (wos (ks key 60) 60))).size := by rw [irow_size, irow_size, zr_len, wl_len, wos_len]
              clear hk hlt
              go_wp2_with (first | (refine wpList_load_want rfl 73 _ rfl (gK) rfl 73 (irow .u32 (wl (wos (ks key 60) 60))) (0, 0) _ r3 Tryd.underlying73 rfl hi9 ?_) | (refine wpList_store_row rfl 73 _ _ rfl (w.heap.size + 1) (irow .u32 (wl (wos (ks key 60) 60))) rfl rfl 73 _ r1 hi9 hfi (irow_one _ _) ?_) | fail)
              replace r1 := setRow_heap wr (w.heap.size + 1) _ (irow .u32 (wl (wos (ks key 60) 60))) _ _ r1
              replace hw := below_setRow hw (show w.heap.size ≤ w.heap.size + 1 by omega) (irow .u32 (wl (wos (ks key 60) 60)))
              generalize wr.setRow (w.heap.size + 1) (irow .u32 (wl (wos (ks key 60) 60))) = w9 at *
              exact bodyPost_ret (v := .agg (irow .u32 (wl (wos (ks key 60) 60)))) (results_cell_row Tryd.results32 _ _ (w.heap.size + 1) _ _ _ _ rfl r1 Tryd.underlying73 rfl hi9) rfl ⟨rfl, hw⟩

end Go.Proofs.YtamieopjigjfiabDoor


namespace Go.Proofs.YtamieopjigjfiabDoor
set_option maxRecDepth 100000
open Go Go.RowKit Go.Sort
attribute [local go_sem] setCell_drewN alloc_drewN


theorem ovw_all : ∀ (vs : List Value) (cs : Array Value) (o : Nat), o + vs.length ≤ cs.size → (ovw cs o vs).toList = cs.toList.take o ++ vs ++ cs.toList.drop (o + vs.length)
  | [], cs, o, _ => by simp [ovw]
  | v :: r, cs, o, h => by
    have h' : o < cs.toList.length := by simp at h ⊢; omega
    rw [ovw, ovw_all r _ _ (by simp at h ⊢; omega), Array.toList_setIfInBounds, List.set_eq_take_append_cons_drop, if_pos h']
    have e : (cs.toList.take o).length = o := by rw [List.length_take]; omega
    rw [List.take_append, List.drop_append, e, List.take_take, show min (o + 1) o = o by omega, show o + 1 - o = 1 by omega, List.drop_eq_nil_of_le (show (cs.toList.take o).length ≤ o + 1 + r.length by omega), show o + 1 + r.length - o = r.length + 1 by omega, List.drop_succ_cons, List.drop_drop, List.length_cons, show o + 1 + r.length = o + (r.length + 1) by omega]
    simp
/-- A cipher's cells under way. -/
def cpx (a s b : List Int) : Array Value := irow .u32 a ++ (irow .u8 s ++ irow .u8 b)
theorem cpx_size (a s b : List Int) : (cpx a s b).size = a.length + (s.length + b.length) := by
  rw [cpx, Array.size_append, Array.size_append, irow_size, irow_size, irow_size]
theorem cpx_list (a s b : List Int) : (cpx a s b).toList = a.map (Value.int .u32) ++ (s.map (Value.int .u8) ++ b.map (Value.int .u8)) := by simp [cpx, irow]
theorem cpx_sub (a s b t : List Int) (ha : a.length = 60) (hs : s.length = 256) (ht : t.length = 256) : ovw (cpx a s b) 60 (irow .u8 t).toList = cpx a t b := by
  apply Array.ext'
  rw [ovw_all _ _ _ (by rw [cpx_size]; simp [irow]; omega), cpx_list, cpx_list]
  have h1 : (a.map (Value.int .u32)).length = 60 := by simp [ha]
  have h2 : (s.map (Value.int .u8)).length = 256 := by simp [hs]
  have h3 : (irow .u8 t).toList = t.map (Value.int .u8) := by simp [irow]
  rw [h3, List.length_map, ht, List.take_append_of_le_length (by omega), List.take_of_length_le (by omega), List.drop_append, h1, List.drop_of_length_le (by omega), List.drop_append, h2, List.drop_of_length_le (by omega)]
  simp
theorem cpx_back (a s b t : List Int) (ha : a.length = 60) (hs : s.length = 256) (hb : b.length = 256) (ht : t.length = 256) : ovw (cpx a s b) 316 (irow .u8 t).toList = cpx a s t := by
  apply Array.ext'
  rw [ovw_all _ _ _ (by rw [cpx_size]; simp [irow]; omega), cpx_list, cpx_list]
  have h1 : (a.map (Value.int .u32)).length = 60 := by simp [ha]
  have h2 : (s.map (Value.int .u8)).length = 256 := by simp [hs]
  have h4 : (b.map (Value.int .u8)).length = 256 := by simp [hb]
  have h3 : (irow .u8 t).toList = t.map (Value.int .u8) := by simp [irow]
  rw [h3, List.length_map, ht, ← List.append_assoc, List.take_append_of_le_length (by simp; omega), List.take_of_length_le (by simp; omega), List.drop_of_length_le (by simp; omega)]
  simp
theorem cpx_keys (a s b t : List Int) (ha : a.length = 60) (ht : t.length = 60) : ovw (cpx a s b) 0 (irow .u32 t).toList = cpx t s b := by
  apply Array.ext'
  rw [ovw_all _ _ _ (by rw [cpx_size]; simp [irow]; omega), cpx_list, cpx_list]
  have h1 : (a.map (Value.int .u32)).length = 60 := by simp [ha]
  have h3 : (irow .u32 t).toList = t.map (Value.int .u32) := by simp [irow]
  rw [h3, List.length_map, ht, Nat.zero_add, List.drop_append, h1, List.drop_of_length_le (by omega)]
  simp
theorem builtC : Tryd.prog.built 76 [] = some (cpx (zr 60) (zr 256) (zr 256)) := by kernel_rfl
theorem bCi (cs : Array Value) (W : World) : (Instr.box 76 (.agg cs)).run Tryd.prog W = .ok (.pointer (some ⟨W.heap.size, 0, none⟩)) (W.alloc (.cells cs 76)) := by kernel_rfl
theorem cpx_cell {W : World} {g : Nat} {a b : List Int} {t : TypeId} (h : W.heap[g]? = some (.cells (cpx a (bl sbl) b) t (0, 0))) (ha : a.length = 60) (x : B) : W.cell? ⟨g, 60 + x.toNat, none⟩ = some (.int .u8 (bv (sb x))) := by
  have hx := x.isLt
  rw [cell_of_row W g _ _ _ (0, 0) h, cpx, Array.getElem?_append_right (by rw [irow_size, ha]; omega), Array.getElem?_append_left (by rw [irow_size, irow_size, ha, bl_len, sbl_len]; omega), irow_size, ha, show 60 + x.toNat - 60 = x.toNat by omega, irow_get _ _ _ (by rw [bl_len, sbl_len]; exact hx), bl_get, sbl_get]

set_option maxRecDepth 100000 in
set_option maxHeartbeats 4000000 in
theorem a_new5 (key : List B) (hl : key.length = 32) (w : World) : Calls Tryd.prog 20 #[.agg (irow .u8 (bl (key)))] w fun e w' => ∃ v, e = .returned v ∧ ∃ g, v = .pointer (some ⟨g, 0, none⟩) ∧ w.heap.size ≤ g ∧ Cph w' g (ks key 60) ∧ Below w.heap.size w w' := by
  have R0 := hp2_0 w (.cells (irow .u8 (bl (key))) 23) (.cells (cpx (zr 60) (zr 256) (zr 256)) 76)
  have R1 := hp2_1 w (.cells (irow .u8 (bl (key))) 23) (.cells (cpx (zr 60) (zr 256) (zr 256)) 76)
  have hw : Below w.heap.size w ((w.alloc (.cells (irow .u8 (bl (key))) 23)).alloc (.cells (cpx (zr 60) (zr 256) (zr 256)) 76)) := (((Below.refl _ _).alloc (Nat.le_refl _) _).alloc (by simp) _)

  have hi0 := info_bl infoKy key hl
  have hi1 := info256 sbl sbl_len
  have hi2 := info256 bkl bkl_len
  have cb := a_boxes
  go_enter Tryd.func20, Tryd.ntmps20
  go_wp2_with (first | (refine wpList_box rfl 23 _ rfl _ rfl (bKey _) ?_) | (refine wpList_build_as rfl 76 _ rfl [] rfl (cpx (zr 60) (zr 256) (zr 256)) builtC ?_) | (refine wpList_box rfl 76 _ rfl _ rfl (bCi _) ?_) | fail)
  try simp only [size_alloc1, Act.put, List.setIfInBounds_toArray, List.set_cons_succ, List.set_cons_zero]
  generalize World.alloc _ _ = w0 at *
  refine (cb.at _).mono ?_
  rintro e_ w1 ⟨rfl, hb⟩
  replace R0 := keep hb R0
  replace R1 := keep hb R1
  replace hw := Below.after hw hb
  clear hb cb
  go_wp2_with (first | (refine wpList_store_part rfl 74 _ _ rfl (w.heap.size + 1) 60 (irow .u8 (bl (sbl))) rfl rfl 76 (cpx (zr 60) (zr 256) (zr 256)) (cpx (zr 60) (bl sbl) (zr 256)) R1 (by rw [cpx_size, irow_size, bl_len, sbl_len, zr_len, zr_len]; omega) (cpx_sub _ _ _ _ (zr_len _) (zr_len _) (by rw [bl_len, sbl_len])) hi1 (irow_one _ _) ?_; refine wpList_stay ?_) | fail)
  unfold WpStay
  replace R0 := (setRow_other w1 (w.heap.size + 1) (w.heap.size) (cpx (zr 60) (bl sbl) (zr 256)) (by omega)).trans R0
  replace R1 := setRow_heap w1 (w.heap.size + 1) _ (cpx (zr 60) (bl sbl) (zr 256)) _ _ R1
  replace hw := below_setRow hw (show w.heap.size ≤ w.heap.size + 1 by omega) (cpx (zr 60) (bl sbl) (zr 256))
  generalize w1.setRow (w.heap.size + 1) (cpx (zr 60) (bl sbl) (zr 256)) = w2 at *
  go_wp2_with (first | (refine wpList_store_part rfl 74 _ _ rfl (w.heap.size + 1) 316 (irow .u8 (bl (bkl))) rfl rfl 76 (cpx (zr 60) (bl sbl) (zr 256)) (cpx (zr 60) (bl sbl) (bl bkl)) R1 (by rw [cpx_size, irow_size, bl_len, bl_len, bkl_len, sbl_len, zr_len, zr_len]; omega) (cpx_back _ _ _ _ (zr_len _) (by rw [bl_len, sbl_len]) (zr_len _) (by rw [bl_len, bkl_len])) hi2 (irow_one _ _) ?_; refine wpList_stay ?_) | fail)
  unfold WpStay
  replace R0 := (setRow_other w2 (w.heap.size + 1) (w.heap.size) (cpx (zr 60) (bl sbl) (bl bkl)) (by omega)).trans R0
  replace R1 := setRow_heap w2 (w.heap.size + 1) _ (cpx (zr 60) (bl sbl) (bl bkl)) _ _ R1
  replace hw := below_setRow hw (show w.heap.size ≤ w.heap.size + 1 by omega) (cpx (zr 60) (bl sbl) (bl bkl))
  generalize w2.setRow (w.heap.size + 1) (cpx (zr 60) (bl sbl) (bl bkl)) = w3 at *
  go_wp2_with (fail)
  have HR0 := keepr R0
  have HR1 := keepr R1
  refine wp_region_tail (C := fun w' => ∃ p : Regrown, w' = grow (redrawn w3 p.d) p.os) 8 _ rfl rfl rfl (by kernel_rfl) (by kernel_rfl) (by kernel_rfl) (by kernel_rfl) ⟨⟨w3.drawn + 1, #[]⟩, by rw [grow_empty]; rfl⟩ ?_
  dsimp only [List.set, idle]
  go_big_quiet_step (fail)
  refine wpQuiet_load_row rfl 23 _ rfl (w.heap.size) rfl 23 (irow .u8 (bl (key))) (0, 0) _ HR0.out Tryd.underlying23 rfl hi0 ?_
  simp only [Act.put, List.setIfInBounds_toArray, List.set_cons_succ, List.set_cons_zero]
  go_big_quiet_step (fail)
  go_big_quiet_step (fail)
  go_big_quiet_step (fail)
  go_big_quiet_step (exact Calls.regrown_of (a_roundKeys key hl (w.heap.size + 1) 60 _ (lt_of_row (HR1.out _ ⟨_, rfl⟩)) (fun x => cpx_cell (HR1.out _ ⟨_, rfl⟩) (zr_len 60) x)))
  go_big_quiet_step (fail)
  go_big_quiet_step (fail)
  refine wpQuiet_idle rfl rfl rfl ?_
  rintro _ ⟨p, rfl⟩
  have hb := below_regrown w3 p.d p.os
  generalize grow (redrawn w3 p.d) p.os = w4 at *
  replace R0 := keep hb R0
  replace R1 := keep hb R1
  replace hw := Below.after hw hb
  clear hb

  have hi5 := info_wl info15 (wos (ks key 60) 60) (wos_len _ _)
  refine wpList_store_part rfl 73 _ _ rfl (w.heap.size + 1) 0 (irow .u32 (wl (wos (ks key 60) 60))) rfl rfl 76 (cpx (zr 60) (bl sbl) (bl bkl)) (cph (ks key 60)) R1 (by rw [cpx_size, irow_size, wl_len, wos_len, zr_len]; omega) (cpx_keys _ _ _ _ (zr_len _) (by rw [wl_len, wos_len])) hi5 (irow_one _ _) ?_
  simp only [Act.put]
  replace R1 := setRow_heap w4 (w.heap.size + 1) _ (cph (ks key 60)) _ _ R1
  replace hw := below_setRow hw (show w.heap.size ≤ w.heap.size + 1 by omega) (cph (ks key 60))
  generalize w4.setRow (w.heap.size + 1) (cph (ks key 60)) = w5 at *
  clear HR0 HR1
  go_wp2
  go_ret
  exact ⟨_, rfl, w.heap.size + 1, rfl, by omega, R1, hw⟩

end Go.Proofs.YtamieopjigjfiabDoor


namespace Go.Proofs.YtamieopjigjfiabDoor
set_option maxRecDepth 100000
open Go Go.RowKit Go.Sort
attribute [local go_sem] setCell_drewN alloc_drewN


/-- Bytes at the head of a row. -/
theorem trow_cell {W : World} {g : Nat} {l : List B} {T : Array Value} {t : TypeId} (hg : W.heap[g]? = some (.cells ((irow .u8 (bl (l))) ++ T) t (0, 0))) {j : Nat} (hj : j < l.length) : W.cell? ⟨g, j, none⟩ = some (.int .u8 (bv (gb l j))) := by
  rw [cell_of_row W g j _ t (0, 0) hg, Array.getElem?_append_left (by rw [irow_size, bl_len]; exact hj)]
  exact brow_at l j hj
theorem trow_set {W : World} {g : Nat} {l : List B} {T : Array Value} {t : TypeId} (hg : W.heap[g]? = some (.cells ((irow .u8 (bl (l))) ++ T) t (0, 0))) (j : Nat) (hj : j < l.length) (z : B) : (W.setCell ⟨g, j, none⟩ (.int .u8 (bv z))).heap[g]? = some (.cells ((irow .u8 (bl (l.set j z))) ++ T) t (0, 0)) := by
  rw [heap_setCell_same W g j _ t _ hg, Array.setIfInBounds_append_left (by rw [irow_size, bl_len]; exact hj), brow_put]
theorem own_row {W : World} {b : Nat} {v : Value} {d : List B} (h : Own W b v d) (hd : 0 < d.length) : ∃ g cap T, v = .slice (some ⟨g, 0, none⟩) d.length cap ∧ b ≤ g ∧ W.heap[g]? = some (.cells ((irow .u8 (bl (d))) ++ T) 5 (0, 0)) ∧ d.length ≤ cap ∧ cap ≤ maxLen ∧ ((irow .u8 (bl (d))) ++ T).size = cap := by
  obtain ⟨hx, ⟨rfl, h0⟩ | ⟨g, cap, cur, rfl, hb, hg, hn, hm, hs, ht⟩⟩ := h
  · omega
  · simp only [Nat.mul_one] at hs ht
    have hcur : cur = (irow .u8 (bl (d))) ++ (cur.toList.drop d.length).toArray := by
      apply Array.ext'
      rw [Array.toList_append, List.toList_toArray]
      conv => lhs; rw [← List.take_append_drop d.length cur.toList]
      rw [ht]
      simp [irow]
    refine ⟨g, cap, (cur.toList.drop d.length).toArray, rfl, hb, by rw [← hcur]; exact hg, hn, hm, by rw [← hcur]; exact hs⟩
theorem row_own {W : World} {b g cap : Nat} {d : List B} {T : Array Value} (hb : b ≤ g) (hg : W.heap[g]? = some (.cells ((irow .u8 (bl (d))) ++ T) 5 (0, 0))) (hn : d.length ≤ cap) (hm : cap ≤ maxLen) (hs : ((irow .u8 (bl (d))) ++ T).size = cap) : Own W b (.slice (some ⟨g, 0, none⟩) d.length cap) d := by
  refine ⟨by simp [bl_len], .inr ⟨g, cap, _, rfl, hb, hg, hn, hm, by rw [hs, Nat.mul_one], ?_⟩⟩
  rw [Nat.mul_one, Array.toList_append, List.take_append_of_le_length (by simp [irow, bl_len]), List.take_of_length_le (by simp [irow, bl_len])]
  simp [irow]
theorem Own.base {W : World} {b b' : Nat} {v : Value} {d : List B} (h : Own W b v d) (hb : b' ≤ b) : Own W b' v d := by
  obtain ⟨hx, ⟨rfl, h0⟩ | ⟨g, cap, cur, rfl, hg, hr⟩⟩ := h
  · exact ⟨hx, .inl ⟨rfl, h0⟩⟩
  · exact ⟨hx, .inr ⟨g, cap, cur, rfl, Nat.le_trans hb hg, hr⟩⟩
/-- The first m bytes turned. -/
def cpd (K nonce : List B) (at_ : Nat) (d : List B) (m : Nat) : List B := (List.range d.length).map fun i => if i < m then gb (cry K nonce at_ d) i else gb d i
theorem cpd_len (K nonce : List B) (at_ : Nat) (d : List B) (m : Nat) : (cpd K nonce at_ d m).length = d.length := by simp [cpd]
theorem cpd_at (K nonce : List B) (at_ : Nat) (d : List B) (m i : Nat) (h : i < d.length) : gb (cpd K nonce at_ d m) i = if i < m then gb (cry K nonce at_ d) i else gb d i := by
  simp [cpd, gb, List.getD_eq_getElem?_getD, h]
theorem cpd_zero (K nonce : List B) (at_ : Nat) (d : List B) : cpd K nonce at_ d 0 = d := ext_gb (cpd_len _ _ _ _ _) fun i h => by
  rw [cpd_len] at h; rw [cpd_at _ _ _ _ _ _ h, if_neg (by omega)]
theorem cpd_full (K nonce : List B) (at_ : Nat) (d : List B) : cpd K nonce at_ d d.length = cry K nonce at_ d := ext_gb (by rw [cpd_len, cry_len]) fun i h => by
  rw [cpd_len] at h; rw [cpd_at _ _ _ _ _ _ h, if_pos h]
theorem cpd_set (K nonce : List B) (at_ : Nat) (d : List B) (m : Nat) (h : m < d.length) : (cpd K nonce at_ d m).set m (gb (cry K nonce at_ d) m) = cpd K nonce at_ d (m + 1) := by
  refine ext_gb (by rw [List.length_set, cpd_len, cpd_len]) fun i hi => ?_
  rw [List.length_set, cpd_len] at hi
  rw [cpd_at _ _ _ _ _ _ hi, gb, List.getD_eq_getElem?_getD, List.getElem?_set]
  by_cases e : m = i
  · subst e
    rw [if_pos rfl, if_pos (by rw [cpd_len]; exact h), if_pos (by omega)]; rfl
  · rw [if_neg e, ← List.getD_eq_getElem?_getD]
    show gb (cpd K nonce at_ d m) i = _
    rw [cpd_at _ _ _ _ _ _ hi]
    by_cases g : i < m
    · rw [if_pos g, if_pos (by omega)]
    · rw [if_neg g, if_neg (by omega)]

set_option maxRecDepth 100000 in
set_option maxHeartbeats 8000000 in
theorem a_crypt2 (key nonce : List B) (hk : key.length = 32) (hno : nonce.length = 16) (at_ : Nat) (hat : at_ < 18446744073709551616) (d : List B) (w : World) (v : Value) (hB : BysB w v d) : Calls Tryd.prog 13 #[.agg (irow .u8 (bl (key))), .agg (irow .u8 (bl (nonce))), .int .u64 (at_ : Int), v] w fun e w' => ∃ u, e = .returned u ∧ (Own w' w.heap.size u (cry (ks key 60) nonce at_ d) ∧ (∀ ad l c, v = .slice (some ad) l c → u ≠ .slice none 0 0)) ∧ Below w.heap.size w w' := by
  have R0 := hp2_0 w (.cells (irow .u8 (bl (key))) 23) (.cells (irow .u8 (bl (nonce))) 25)
  have R1 := hp2_1 w (.cells (irow .u8 (bl (key))) 23) (.cells (irow .u8 (bl (nonce))) 25)
  have hw : Below w.heap.size w ((w.alloc (.cells (irow .u8 (bl (key))) 23)).alloc (.cells (irow .u8 (bl (nonce))) 25)) := (((Below.refl _ _).alloc (Nat.le_refl _) _).alloc (by simp) _)

  replace hB := hB.keep hw
  have hiK := info_bl infoKy key hk
  have hiN := info_bl infoN nonce hno
  have cn := a_new5 key hk
  have cf := a_further nonce hno (at_ / 16) (by omega)
  generalize ks key 60 = K at *
  have hdv : ((at_ / 16 : Nat) : Int) = (at_ : Int) / 16 := rfl
  rw [hdv] at cf
  have hiC0 := info_bl infoB (ctr nonce (at_ / 16)) (ctr_len _ _)
  go_enter Tryd.func13, Tryd.ntmps13
  go_wp2_with (first | (refine wpList_box rfl 23 _ rfl _ rfl (bKey _) ?_) | (refine wpList_box rfl 25 _ rfl _ rfl (bNo _) ?_) | (refine wpList_load_want rfl 23 _ rfl (w.heap.size) rfl 23 (irow .u8 (bl (key))) (0, 0) _ R0 Tryd.underlying23 rfl hiK ?_) | fail)
  try simp only [size_alloc1, Act.put, List.setIfInBounds_toArray, List.set_cons_succ, List.set_cons_zero]
  generalize World.alloc _ _ = w0 at *
  refine (cn _).mono ?_
  rintro _ w1 ⟨_, rfl, g, rfl, hg, hC, hb⟩
  replace R1 := keep hb R1
  replace hB := hB.keep hb
  replace hw := Below.after hw hb
  clear hb hg cn R0 hdv
  go_wp2_with (first | (refine wpList_load_want rfl 25 _ rfl (w.heap.size + 1) rfl 25 (irow .u8 (bl (nonce))) (0, 0) _ R1 Tryd.underlying25 rfl hiN ?_) | fail)
  refine (cf.at _).mono ?_
  rintro _ w2 ⟨rfl, hb⟩
  replace hB := hB.keep hb
  replace hC := hC.keep hb
  replace hw := Below.after hw hb
  clear hb cf R1
  replace hB : BysB (w2.setRow w2.heap.size #[]) v d ∧ BysB w2 v d := ⟨hB.keep (below_setRow (Below.refl _ _) (Nat.le_refl _) _), hB⟩
  replace hB := hB.2
  have hB2 : Hid (∀ W, Below w2.heap.size w2 W → BysB W v d) := hide (fun W h => hB.keep h)
  have HBx : Below w2.heap.size w2 ((w2.alloc (.cells (irow .u8 (zr 16)) 50)).setRow w2.heap.size (irow .u8 (bl (ctr nonce (at_ / 16))))) := below_setRow ((Below.refl _ _).alloc (Nat.le_refl _) _) (Nat.le_refl _) _
  replace hB := hB2.out _ HBx
  clear HBx hB2
  have rC := hp1_0 w2 (.cells (irow .u8 (zr 16)) 50)
  have HB : Below w2.heap.size w2 (w2.alloc (.cells (irow .u8 (zr 16)) 50)) := (Below.refl _ _).alloc (Nat.le_refl _) _
  go_wp2_with (first | (refine wpList_alloc rfl 50 rfl (irow .u8 (zr 16)) zBl ?_) | (refine wpList_store_row rfl 50 _ _ rfl (w2.heap.size) (irow .u8 (bl (ctr nonce (at_ / 16)))) rfl rfl 50 _ rC hiC0 (by rw [irow_size, irow_size, zr_len, bl_len, ctr_len]) (irow_one _ _) ?_; refine wpList_stay ?_) | fail)
  unfold WpStay
  have hsz_rC := hw.size
  have lCrC := lt_of_row hC
  replace hC : Cph _ g K := (setRow_other _ (w2.heap.size) g (irow .u8 (bl (ctr nonce (at_ / 16)))) (Nat.ne_of_lt lCrC)).trans (keep HB hC)
  replace rC := setRow_heap _ (w2.heap.size) _ (irow .u8 (bl (ctr nonce (at_ / 16)))) _ _ rC
  replace hw := below_setRow (Below.after hw HB) hsz_rC (irow .u8 (bl (ctr nonce (at_ / 16))))
  clear HB
  generalize World.setRow _ (w2.heap.size) (irow .u8 (bl (ctr nonce (at_ / 16)))) = w3 at *
  generalize w2.heap.size = gC at *

  have ccl := a_clone2 d w3 v hB
  go_wp2_with (fail)
  refine ccl.mono ?_
  rintro _ w4 ⟨u, rfl, ⟨hO, hnn⟩, hb⟩
  have lC3 := lt_of_row rC
  replace rC := keep hb rC
  replace hC := hC.keep hb
  have hsz4 := hw.size
  have lrC := lt_of_row rC
  replace hw := Below.after hw hb
  clear hB ccl
  replace hnn := hide hnn
  by_cases h0 : d.length = 0
  · obtain rfl : d = [] := List.length_eq_zero_iff.1 h0
    obtain ⟨ao, cap, rfl⟩ := slen_own5 hO
    go_wp2_with (fail)
    refine wp_loop_rounds 1 ?_
    rw [rounds_succ]
    go_wp2
    go_ret
    exact ⟨_, rfl, ⟨hO.base hsz4, hnn.out⟩, hw⟩
  · obtain ⟨gO, cap, T, rfl, hgO, rO, hcap, hcm, hcs⟩ := own_row hO (by omega)
    clear hO hb
    go_wp2_with (fail)
    rw [← cpd_zero K nonce at_ d] at rO hcs
    rw [cpd_zero K nonce at_ d] at hcs
    go_loopw [11, 13] (fun s r wr => ∃ (m sk : Nat) (cl : List B), m ≤ d.length ∧ s = .int .i64 (sk : Int) ∧ cl.length = 16 ∧ wr.heap[gC]? = some (.cells (irow .u8 (bl (cl))) 50 (0, 0)) ∧ wr.heap[gO]? = some (.cells ((irow .u8 (bl (cpd K nonce at_ d m))) ++ T) 5 (0, 0)) ∧ Cph wr g K ∧ Below w.heap.size w wr ∧ ((m < d.length ∧ r = .slice (some ⟨gO, m, none⟩) (d.length - m) (cap - m) ∧ sk = (at_ + m) % 16 ∧ cl = ctr nonce ((at_ + m) / 16)) ∨ (m = d.length ∧ ∃ ao c, r = .slice ao 0 c))) (fun _ r _ => slen5 r)
    case atStart => exact ⟨0, at_ % 16, ctr nonce (at_ / 16), by omega, rfl, ctr_len _ _, rC, rO, hC, hw, .inl ⟨by omega, rfl, rfl, rfl⟩⟩
    case round =>
      clear rC rO hC hw
      obtain ⟨m, sk, cl, hm, rfl, hcl, rC, rO, hC, hw, ⟨hmd, rfl, hsk, hce⟩ | ⟨rfl, ao, c, rfl⟩⟩ := hrel
      · have hd : decide (((d.length - m : Nat) : Int) > 0) = true := by simp; omega
        have hsk16 : sk < 16 := by omega
        replace hsk := hide hsk
        replace hce := hide hce
        have ce := a_encrypt cl K hcl g
        have hiE := info_bl infoB (enc K cl) (enc_len _ _)
        have hiC := info_bl infoB cl hcl
        go_wp2_with (first | (refine wpList_load_want rfl 50 _ rfl (gC) rfl 50 (irow .u8 (bl (cl))) (0, 0) _ rC Tryd.underlying50 rfl hiC ?_) | fail)
        refine (ce _ hC).mono ?_
        rintro _ w5 ⟨rfl, hb⟩
        replace rC := keep hb rC
        replace rO := keep hb rO
        replace hC := hC.keep hb
        replace hw := Below.after hw hb
        clear hb

        clear ce
        have rS := hp1_0 w5 (.cells (irow .u8 (zr 16)) 50)
        have HB : Below w5.heap.size w5 (w5.alloc (.cells (irow .u8 (zr 16)) 50)) := (Below.refl _ _).alloc (Nat.le_refl _) _
        go_wp2_with (first | (refine wpList_alloc rfl 50 rfl (irow .u8 (zr 16)) zBl ?_) | (refine wpList_store_row rfl 50 _ _ rfl (w5.heap.size) (irow .u8 (bl (enc K cl))) rfl rfl 50 _ rS hiE (by rw [irow_size, irow_size, zr_len, bl_len, enc_len]) (irow_one _ _) ?_; refine wpList_stay ?_) | fail)
        unfold WpStay
        have hsz_rS := hw.size
        have lCrS := lt_of_row hC
        have lrCrS := lt_of_row rC
        replace rC := (setRow_other _ (w5.heap.size) _ (irow .u8 (bl (enc K cl))) (Nat.ne_of_lt lrCrS)).trans (keep HB rC)
        have lrOrS := lt_of_row rO
        replace rO := (setRow_other _ (w5.heap.size) _ (irow .u8 (bl (enc K cl))) (Nat.ne_of_lt lrOrS)).trans (keep HB rO)
        replace hC : Cph _ g K := (setRow_other _ (w5.heap.size) g (irow .u8 (bl (enc K cl))) (Nat.ne_of_lt lCrS)).trans (keep HB hC)
        replace rS := setRow_heap _ (w5.heap.size) _ (irow .u8 (bl (enc K cl))) _ _ rS
        replace hw := below_setRow (Below.after hw HB) hsz_rS (irow .u8 (bl (enc K cl)))
        clear HB
        generalize World.setRow _ (w5.heap.size) (irow .u8 (bl (enc K cl))) = w6 at *
        generalize w5.heap.size = gS at *

        obtain ⟨q, hq⟩ : ∃ q : Nat, q = min (d.length - m) (16 - sk) := ⟨_, rfl⟩
        have hqi : (if (16 : Int) - (sk : Int) < ((d.length - m : Nat) : Int) then (16 : Int) - (sk : Int) else ((d.length - m : Nat) : Int)) = (q : Int) := by split <;> omega
        have hq2 : q ≤ d.length - m ∧ q + sk ≤ 16 := by omega
        have hq3 : 0 < q := by omega
        replace hq := hide hq
        go_wp2_with (fail)
        have hby : Hid (∀ j < q, gb (cry K nonce at_ d) (m + j) = gb d (m + j) ^^^ gb (enc K cl) (sk + j)) := hide (fun j hj => by
          rw [cry_get _ _ _ _ _ (by omega), sby, hce.out, hsk.out, show at_ + (m + j) = (at_ + m) + j by omega, show (at_ + m + j) / 16 = (at_ + m) / 16 by have := hsk.out; omega, show (at_ + m + j) % 16 = (at_ + m) % 16 + j by have := hsk.out; omega])
        go_loopw [41] (fun i wr => ∃ j : Nat, j ≤ q ∧ i = .int .i64 j ∧ wr.heap[gC]? = some (.cells (irow .u8 (bl (cl))) 50 (0, 0)) ∧ wr.heap[gO]? = some (.cells ((irow .u8 (bl (cpd K nonce at_ d (m + j)))) ++ T) 5 (0, 0)) ∧ wr.heap[gS]? = some (.cells (irow .u8 (bl (enc K cl))) 50 (0, 0)) ∧ Cph wr g K ∧ Below w.heap.size w wr) (fun i _ => q - (intOf i).toNat)
        case atStart => exact ⟨0, by omega, rfl, rC, rO, rS, hC, hw⟩
        case round =>
          clear rC rO rS hC hw
          obtain ⟨j, hj, rfl, rC, rO, rS, hC, hw⟩ := hrel
          by_cases hjq : j < q
          · have hdj : decide ((j : Int) < (q : Int)) = true := by simp; omega
            have c0 := trow_cell rO (j := m + j) (by rw [cpd_len]; omega)
            rw [cpd_at _ _ _ _ _ _ (by omega), if_neg (by omega)] at c0
            have c1 := brow_cell rS (j := sk + j) (by rw [enc_len]; omega)
            rw [show (enc K cl).getD (sk + j) 0#8 = gb (enc K cl) (sk + j) from rfl] at c1
            have hx := xor8 (gb d (m + j)) (gb (enc K cl) (sk + j))
            have hset := hide (cpd_set K nonce at_ d (m + j) (by omega))
            rw [hby.out j hjq] at hset
            generalize gb d (m + j) = x0 at *
            generalize gb (enc K cl) (sk + j) = x1 at *
            clear hqi
            go_wp2_with (fail)
            have k0 : ∀ p : Regrown, (grow (redrawn wr p.d) p.os).cell? ⟨gO, m + j, none⟩ = some (.int .u8 (bv x0)) := fun p => cell_regrown (c0) p.d p.os
            have k1 : ∀ p : Regrown, (grow (redrawn wr p.d) p.os).cell? ⟨gS, sk + j, none⟩ = some (.int .u8 (bv x1)) := fun p => cell_regrown (c1) p.d p.os
            refine wp_region_tail (C := fun w' => ∃ p : Regrown, w' = grow (redrawn wr p.d) p.os) 11 _ rfl rfl rfl (by kernel_rfl) (by kernel_rfl) (by kernel_rfl) (by kernel_rfl) ⟨⟨wr.drawn + 1, #[]⟩, by rw [grow_empty]; rfl⟩ ?_
            dsimp only [List.set, idle]
            go_big_quiet_step (fail)
            go_big_quiet_step (fail)
            go_big_quiet_step (fail)
            go_big_quiet_step (fail)
            go_big_quiet_step (fail)
            go_big_quiet_step (fail)
            go_big_quiet_step (fail)
            go_big_quiet_step (fail)
            go_big_quiet_step (fail)
            go_big_quiet_step (fail)
            go_big_quiet_step (fail)
            refine wpQuiet_idle rfl rfl rfl ?_
            rintro _ ⟨p, rfl⟩
            have hb := below_regrown wr p.d p.os
            generalize grow (redrawn wr p.d) p.os = w7 at *
            clear k0 k1
            replace rC := keep hb rC
            replace rO := keep hb rO
            replace rS := keep hb rS
            replace hC := keep hb hC
            replace hw := Below.after hw hb
            clear hb

            have cw := trow_cell rO (j := m + j) (by rw [cpd_len]; omega)
            have hf : w7.frozen? ⟨gO, m + j, none⟩ = false := row_frozen rO (m + j)
            clear c0 c1
            go_wp2
            refine ⟨⟨j + 1, by omega, by go_num, heap_other rC (by omega), by rw [← Nat.add_assoc, ← hset.out]; exact trow_set rO (m + j) (by rw [cpd_len]; omega) _, heap_other rS (by omega), heap_other hC (by omega), hw.setCell (show w.heap.size ≤ gO by omega) _⟩, by simp [intOf]; omega⟩
          · obtain rfl : j = q := by omega
            have hdj : decide ((j : Int) < (j : Int)) = false := by simp
            have cf := a_further cl hcl 1 (by omega)
            have hiF := info_bl infoB (ctr cl 1) (ctr_len _ _)
            clear hqi hjq hj
            go_wp2_with (fail)
            have HrC := keepr rC
            have hcj : (d.length - m : Nat) ≤ cap - m := by omega
            refine wp_region_tail (C := fun w' => ∃ p : Regrown, w' = grow (redrawn wr p.d) p.os) 7 _ rfl rfl rfl (by kernel_rfl) (by kernel_rfl) (by kernel_rfl) (by kernel_rfl) ⟨⟨wr.drawn + 1, #[]⟩, by rw [grow_empty]; rfl⟩ ?_
            dsimp only [List.set, idle]
            go_big_quiet_step (fail)
            go_big_quiet_step (fail)
            go_big_quiet_step (fail)
            refine wpQuiet_load_row rfl 50 _ rfl (gC) rfl 50 (irow .u8 (bl (cl))) (0, 0) _ HrC.out Tryd.underlying50 rfl hiC ?_
            simp only [Act.put, List.setIfInBounds_toArray, List.set_cons_succ, List.set_cons_zero]
            go_big_quiet_step (exact cf.re)
            go_big_quiet_step (fail)
            go_big_quiet_step (fail)
            refine wpQuiet_idle rfl rfl rfl ?_
            rintro _ ⟨p, rfl⟩
            have hb := below_regrown wr p.d p.os
            generalize grow (redrawn wr p.d) p.os = w8 at *
            replace rC := keep hb rC
            replace rO := keep hb rO
            replace hC := hC.keep hb
            replace hw := Below.after hw hb
            clear hb HrC rS
            refine wpList_store_row rfl 50 _ _ rfl (gC) (irow .u8 (bl (ctr cl 1))) rfl rfl 50 _ rC hiF (by rw [irow_size, irow_size, bl_len, bl_len, ctr_len, hcl]) (irow_one _ _) ?_
            simp only [Act.put]
            replace rO := (setRow_other w8 gC gO (irow .u8 (bl (ctr cl 1))) (by omega)).trans rO
            replace hC : Cph _ g K := (setRow_other w8 gC g (irow .u8 (bl (ctr cl 1))) (by omega)).trans hC
            replace rC := setRow_heap w8 gC _ (irow .u8 (bl (ctr cl 1))) _ _ rC
            replace hw := below_setRow hw (show w.heap.size ≤ gC by omega) (irow .u8 (bl (ctr cl 1)))
            generalize w8.setRow gC (irow .u8 (bl (ctr cl 1))) = w9 at *
            go_wp2
            refine ⟨⟨m + j, 0, ctr cl 1, by omega, rfl, ctr_len _ _, rC, rO, hC, hw, ?_⟩, by simp only [slen5]; omega⟩
            by_cases hl : m + j < d.length
            · have e1 := hq.out
              have e2 := hsk.out
              refine .inl ⟨hl, by rw [if_neg (by omega), Nat.sub_sub, Nat.sub_sub], by omega, ?_⟩
              rw [hce.out, ctr_ctr]
              congr 1
              omega
            · refine .inr ⟨by omega, (if cap - m = j then some ⟨gO, m, none⟩ else some ⟨gO, m + j, none⟩), cap - m - j, ?_⟩
              rw [show d.length - m - j = 0 by omega]
      · have hd : decide ((0 : Int) > 0) = false := by decide
        rw [cpd_full] at rO
        go_wp2
        go_ret
        refine ⟨_, rfl, ⟨?_, fun _ _ _ _ e => by cases e⟩, hw⟩
        have := row_own (b := w.heap.size) (cap := cap) (show w.heap.size ≤ gO by omega) rO (by rw [cry_len]; exact hcap) hcm (by rw [← hcs]; simp [irow_size, bl_len, cry_len])
        rw [cry_len] at this
        exact this
theorem a_crypt (key nonce : List B) (hk : key.length = 32) (hno : nonce.length = 16) (at_ : Nat) (hat : at_ < 18446744073709551616) (d : List B) (w : World) (v : Value) (hB : BysB w v d) : Calls Tryd.prog 13 #[.agg (irow .u8 (bl (key))), .agg (irow .u8 (bl (nonce))), .int .u64 (at_ : Int), v] w fun e w' => ∃ u, e = .returned u ∧ Own w' w.heap.size u (cry (ks key 60) nonce at_ d) ∧ Below w.heap.size w w' := (a_crypt2 key nonce hk hno at_ hat d w v hB).mono fun _ _ ⟨u, h1, h2, h3⟩ => ⟨u, h1, h2.1, h3⟩

end Go.Proofs.YtamieopjigjfiabDoor

