import Derived.Test.YtamieopjigjfiabDoorProg
import Derived.WalkKit
import Derived.WalkSpells
import Derived.WalkLawsBesides
import Derived.Lib.QuietBelow
import Derived.BigQuiet
import Derived.Test.YtamieopjigjfiabDoorKa
import Derived.Test.YtamieopjigjfiabDoorWd
import Derived.Test.YtamieopjigjfiabDoorWe
namespace Go.Proofs.YtamieopjigjfiabDoor
set_option maxRecDepth 100000
open Go Go.RowKit Go.Sort
attribute [local go_sem] setCell_drewN alloc_drewN


/-! Lists turned place by place. -/
def pm (f g : Nat → B) (n k : Nat) : List B := (List.range n).map fun j => if j < k then f j else g j
theorem pm_len (f g : Nat → B) (n k : Nat) : (pm f g n k).length = n := by simp [pm]
theorem pm_get (f g : Nat → B) (n k : Nat) (h : k < n) : (pm f g n k).getD k 0#8 = g k := by
  simp [pm, List.getD_eq_getElem?_getD, h]
theorem pm_set (f g : Nat → B) (n k : Nat) (h : k < n) : (pm f g n k).set k (f k) = pm f g n (k + 1) := by
  apply List.ext_getElem?
  intro j
  rw [List.getElem?_set]
  by_cases e : k = j
  · subst e
    rw [if_pos rfl, if_pos (by rw [pm_len]; exact h)]
    simp [pm, h]
  · rw [if_neg e]
    simp only [pm, List.getElem?_map]
    by_cases hj : j < n
    · simp only [List.getElem?_range hj, Option.map_some]
      by_cases h1 : j < k
      · rw [if_pos h1, if_pos (by omega)]
      · rw [if_neg h1, if_neg (by omega)]
    · rw [List.getElem?_eq_none (by simp; omega)]; rfl
theorem pm_zero (f : Nat → B) (l : List B) (hl : l.length = 16) : pm f (gb l) 16 0 = l := by
  apply ext16 (pm_len _ _ _ _) hl
  intro i hi
  simp [pm, List.getD_eq_getElem?_getD, hi, gb]
theorem pm_full (m : List B) (g : Nat → B) (hm : m.length = 16) : pm (gb m) g 16 16 = m := by
  apply ext16 (pm_len _ _ _ _) hm
  intro i hi
  simp [pm, List.getD_eq_getElem?_getD, hi, gb]
theorem b256 (cs : Array Value) (W : World) : (Instr.box 74 (.agg cs)).run Tryd.prog W = .ok (.pointer (some ⟨W.heap.size, 0, none⟩)) (W.alloc (.cells cs 74)) := by kernel_rfl
end Go.Proofs.YtamieopjigjfiabDoor


namespace Go.Proofs.YtamieopjigjfiabDoor
set_option maxRecDepth 100000
open Go Go.RowKit Go.Sort
attribute [local go_sem] setCell_drewN alloc_drewN


/-- The last k bytes counted on. -/
def cpt (l : List B) (n k : Nat) : List B := mk16 fun i => if 16 ≤ i + k then ctb l n i else gb l i
theorem cpt_len (l : List B) (n k : Nat) : (cpt l n k).length = 16 := mk16_len _
theorem cpt_zero (l : List B) (n : Nat) (hl : l.length = 16) : cpt l n 0 = l := by
  apply ext16 (cpt_len _ _ _) hl
  intro i hi
  rw [cpt, mk16_get _ hi, if_neg (by omega)]; rfl
theorem cpt_full (l : List B) (n : Nat) : cpt l n 16 = ctr l n := by
  apply ext16 (cpt_len _ _ _) (ctr_len _ _)
  intro i hi
  rw [cpt, mk16_get _ hi, if_pos (by omega), ctr, mk16_get _ hi]
theorem cpt_get (l : List B) (n k : Nat) (h : k < 16) : (cpt l n k).getD (15 - k) 0#8 = gb l (15 - k) := by
  rw [cpt, mk16_get _ (by omega), if_neg (by omega)]
theorem cpt_set (l : List B) (n k : Nat) (h : k < 16) : (cpt l n k).set (15 - k) (ctb l n (15 - k)) = cpt l n (k + 1) := by
  apply ext16 (by rw [List.length_set, cpt_len]) (cpt_len _ _ _)
  intro i hi
  rw [List.getD_eq_getElem?_getD, List.getElem?_set]
  by_cases e : 15 - k = i
  · rw [if_pos e, if_pos (by rw [cpt_len]; omega), cpt, mk16_get _ hi, if_pos (by omega), e]; rfl
  · rw [if_neg e, ← List.getD_eq_getElem?_getD, cpt, mk16_get _ hi, cpt, mk16_get _ hi]
    by_cases g : 16 ≤ i + k
    · rw [if_pos g, if_pos (by omega)]
    · rw [if_neg g, if_neg (by omega)]
theorem cr_stay (l : List B) (n k : Nat) (h : cr l n k = 0) : ∀ j, cr l n (k + j) = 0 := by
  intro j
  induction j with
  | zero => exact h
  | succ j ih =>
    rw [← Nat.add_assoc, cr, ih]
    have := (gb l (15 - (k + j))).isLt
    omega
/-- Where nothing is carried any more the other bytes stay. -/
theorem cpt_done (l : List B) (n k : Nat) (h : cr l n k = 0) (_hk : k ≤ 16) : cpt l n k = ctr l n := by
  apply ext16 (cpt_len _ _ _) (ctr_len _ _)
  intro i hi
  rw [cpt, mk16_get _ hi, ctr, mk16_get _ hi]
  by_cases g : 16 ≤ i + k
  · rw [if_pos g]
  · rw [if_neg g, ctb]
    have := cr_stay l n k h (15 - i - k)
    rw [show k + (15 - i - k) = 15 - i by omega] at this
    rw [this, Nat.zero_add, BitVec.ofNat_toNat, BitVec.setWidth_eq]
theorem cr_lt (l : List B) (n : Nat) (hn : n < 1152921504606846976) (k : Nat) : cr l n k < 1152921504606846976 := by
  induction k with
  | zero => exact hn
  | succ k ih =>
    rw [cr]
    have := (gb l (15 - k)).isLt
    omega
theorem bv_ctb (l : List B) (n k : Nat) (_hk : k < 16) : ((cr l n k : Int) + bv (gb l (15 - k))) % 256 = bv (ctb l n (15 - k)) := by
  unfold bv ctb
  rw [BitVec.toNat_ofNat, show 15 - (15 - k) = k by omega]
  omega
theorem bv_crn (l : List B) (n k : Nat) : ((cr l n k : Int) + bv (gb l (15 - k))) / 256 = ((cr l n (k + 1) : Nat) : Int) := by
  unfold bv
  rw [cr]
  omega

set_option maxRecDepth 100000 in
set_option maxHeartbeats 4000000 in
theorem a_further (l : List B) (hl : l.length = 16) (n : Nat) (hn : n < 1152921504606846976) : Gives 21 #[.agg (irow .u8 (bl (l))), .int .u64 (n : Int)] (.agg (irow .u8 (bl (ctr l n)))) := by
  intro w
  have R0 := hp2_0 w (.cells (irow .u8 (bl (l))) 50) (.cells (irow .u8 (zr 16)) 50)
  have R1 := hp2_1 w (.cells (irow .u8 (bl (l))) 50) (.cells (irow .u8 (zr 16)) 50)
  have hw : Below w.heap.size w ((w.alloc (.cells (irow .u8 (bl (l))) 50)).alloc (.cells (irow .u8 (zr 16)) 50)) := (((Below.refl _ _).alloc (Nat.le_refl _) _).alloc (by simp) _)

  go_enter Tryd.func21, Tryd.ntmps21
  go_wp2_with (first | (refine wpList_box rfl 50 _ rfl _ rfl (bBl _) ?_) | (refine wpList_alloc rfl 50 rfl (irow .u8 (zr 16)) zBl ?_) | fail)
  try simp only [size_alloc1, Act.put, List.setIfInBounds_toArray, List.set_cons_succ, List.set_cons_zero]
  generalize World.alloc _ _ = w0 at *
  go_loopw [1, 5] (fun m i wr => ∃ k : Nat, k ≤ 16 ∧ i = .int .i64 (15 - (k : Int)) ∧ m = .int .u64 ((cr l n k : Nat) : Int) ∧ wr.heap[w.heap.size]? = some (.cells (irow .u8 (bl (cpt l n k))) 50 (0, 0)) ∧ wr.heap[w.heap.size + 1]? = some (.cells (irow .u8 (zr 16)) 50 (0, 0)) ∧ Below w.heap.size w wr) (fun _ i _ => (intOf i + 1).toNat)
  case atStart => exact ⟨0, by omega, rfl, rfl, by rw [cpt_zero l n hl]; exact R0, R1, hw⟩
  case round =>
    clear R0 R1 hw
    obtain ⟨k, hk, rfl, rfl, r0, r1, hw⟩ := hrel
    have hcl := cr_lt l n hn k
    by_cases hlt : k < 16
    · have hd : decide (15 - (k : Int) ≥ 0) = true := by simp; omega
      by_cases h0 : cr l n k = 0
      · rw [cpt_done l n k h0 hk] at r0
        have hd2 : decide (((cr l n k : Nat) : Int) > 0) = false := by simp; omega
        rw [h0]
        clear hcl h0 hd2
        have hd2 : decide (((0 : Nat) : Int) > 0) = false := by decide
        have hi9 := info_bl infoB (ctr l n) (ctr_len _ _)
        have hfi : (irow .u8 (zr 16)).size = (irow .u8 (bl (ctr l n))).size := by rw [irow_size, irow_size, zr_len, bl_len, ctr_len]
        go_wp2_with (first | (refine wpList_load_want rfl 50 _ rfl (w.heap.size) rfl 50 (irow .u8 (bl (ctr l n))) (0, 0) _ r0 Tryd.underlying50 rfl hi9 ?_) | (refine wpList_store_row rfl 50 _ _ rfl (w.heap.size + 1) (irow .u8 (bl (ctr l n))) rfl rfl 50 _ r1 hi9 hfi (irow_one _ _) ?_) | fail)
        replace r1 := setRow_heap wr (w.heap.size + 1) _ (irow .u8 (bl (ctr l n))) _ _ r1
        replace hw := below_setRow hw (show w.heap.size ≤ w.heap.size + 1 by omega) (irow .u8 (bl (ctr l n)))
        generalize wr.setRow (w.heap.size + 1) (irow .u8 (bl (ctr l n))) = w9 at *
        exact bodyPost_ret (v := .agg (irow .u8 (bl (ctr l n)))) (results_cell_row Tryd.results21 _ _ (w.heap.size + 1) _ _ _ _ rfl r1 Tryd.underlying50 rfl hi9) rfl ⟨rfl, hw⟩

      · have hd2 : decide (((cr l n k : Nat) : Int) > 0) = true := by simp; omega
        have hto : (15 - (k : Int)).toNat = 15 - k := by omega
        have c0 := brow_cell r0 (j := 15 - k) (by rw [cpt_len]; omega)
        rw [cpt_get l n k hlt] at c0
        have e1 := bv_ctb l n k hlt
        have e2 := bv_crn l n k
        have b0 := bnd (gb l (15 - k))
        have hset := hide (cpt_set l n k hlt)
        have hf := row_frozen r0 (15 - k)
        have hbd : 0 ≤ 15 - (k : Int) ∧ 15 - (k : Int) < 16 := by omega
        generalize hN : cr l n (k + 1) = N1 at *
        replace hN := hide hN
        generalize ctb l n (15 - k) = x1 at *
        generalize gb l (15 - k) = x0 at *
        generalize cr l n k = N0 at *
        go_wp2
        refine ⟨⟨k + 1, by omega, by congr 1; omega, by rw [hN.out], by rw [← hset.out]; exact brow_set r0 (15 - k) x1, heap_other r1 (by omega), hw.setCell (Nat.le_refl _) _⟩, by simp [intOf]; omega⟩
    · obtain rfl : k = 16 := by omega
      have hd : decide (15 - ((16 : Nat) : Int) ≥ 0) = false := by decide
      rw [cpt_full] at r0
      generalize cr l n 16 = N0 at *
      clear hk hlt
      have hi9 := info_bl infoB (ctr l n) (ctr_len _ _)
      have hfi : (irow .u8 (zr 16)).size = (irow .u8 (bl (ctr l n))).size := by rw [irow_size, irow_size, zr_len, bl_len, ctr_len]
      go_wp2_with (first | (refine wpList_load_want rfl 50 _ rfl (w.heap.size) rfl 50 (irow .u8 (bl (ctr l n))) (0, 0) _ r0 Tryd.underlying50 rfl hi9 ?_) | (refine wpList_store_row rfl 50 _ _ rfl (w.heap.size + 1) (irow .u8 (bl (ctr l n))) rfl rfl 50 _ r1 hi9 hfi (irow_one _ _) ?_) | fail)
      replace r1 := setRow_heap wr (w.heap.size + 1) _ (irow .u8 (bl (ctr l n))) _ _ r1
      replace hw := below_setRow hw (show w.heap.size ≤ w.heap.size + 1 by omega) (irow .u8 (bl (ctr l n)))
      generalize wr.setRow (w.heap.size + 1) (irow .u8 (bl (ctr l n))) = w9 at *
      exact bodyPost_ret (v := .agg (irow .u8 (bl (ctr l n)))) (results_cell_row Tryd.results21 _ _ (w.heap.size + 1) _ _ _ _ rfl r1 Tryd.underlying50 rfl hi9) rfl ⟨rfl, hw⟩


def cft (l : List B) (n k : Nat) : List B := mk16 fun i => if 16 ≤ i + k then ctb l n i else 0#8
theorem cft_len (l : List B) (n k : Nat) : (cft l n k).length = 16 := mk16_len _
theorem cft_zero (l : List B) (n : Nat) : bl (cft l n 0) = zr 16 := by
  rw [← bl_zr]
  congr 1
theorem cft_full (l : List B) (n : Nat) : cft l n 16 = ctr l n := by
  apply ext16 (cft_len _ _ _) (ctr_len _ _)
  intro i hi
  rw [cft, mk16_get _ hi, if_pos (by omega), ctr, mk16_get _ hi]
theorem cft_set (l : List B) (n k : Nat) (h : k < 16) : (cft l n k).set (15 - k) (ctb l n (15 - k)) = cft l n (k + 1) := by
  apply ext16 (by rw [List.length_set, cft_len]) (cft_len _ _ _)
  intro i hi
  rw [List.getD_eq_getElem?_getD, List.getElem?_set]
  by_cases e : 15 - k = i
  · rw [if_pos e, if_pos (by rw [cft_len]; omega), cft, mk16_get _ hi, if_pos (by omega), e]; rfl
  · rw [if_neg e, ← List.getD_eq_getElem?_getD, cft, mk16_get _ hi, cft, mk16_get _ hi]
    by_cases g : 16 ≤ i + k
    · rw [if_pos g, if_pos (by omega)]
    · rw [if_neg g, if_neg (by omega)]
theorem bNo (cs : Array Value) (W : World) : (Instr.box 25 (.agg cs)).run Tryd.prog W = .ok (.pointer (some ⟨W.heap.size, 0, none⟩)) (W.alloc (.cells cs 25)) := by kernel_rfl
theorem infoN : (Tryd.prog.info? 25).map (·.size) = some 16 := by kernel_rfl
/-- Bytes of the data, with their bounds. -/
def BysB (W : World) (v : Value) (bs : List B) : Prop := Bys W v (bl bs) ∧ bs.length ≤ 140737488351232 ∧ (∀ a l c, v = .slice a l c → a = none → c = 0)
theorem BysB.keep {W W' : World} {v : Value} {bs : List B} (h : BysB W v bs) (hb : Below W.heap.size W W') : BysB W' v bs := ⟨h.1.keep hb, h.2⟩
/-- A list of its own. -/
def Own (W : World) (b : Nat) (v : Value) (d : List B) : Prop := W.ownsRow b 5 1 v d.length ((bl d).map (Value.int .u8))
set_option maxHeartbeats 2000000 in
theorem a_clone2 (d : List B) (w : World) (v : Value) (hB : BysB w v d) : Calls Tryd.prog 22 #[v] w fun e w' => ∃ u, e = .returned u ∧ (Own w' w.heap.size u d ∧ (∀ ad l c, v = .slice (some ad) l c → u ≠ .slice none 0 0)) ∧ Below w.heap.size w w' := by
  obtain ⟨⟨ao, cap, rfl, hl, hc, hz⟩, hlen, hnil⟩ := hB
  obtain ⟨i0, hi, hz0, hz1, hz2⟩ := info85
  rw [bl_len] at *
  cases ao with
  | none =>
    obtain rfl := hnil none _ _ rfl rfl
    have h0 : d.length = 0 := by
      rcases Nat.eq_zero_or_pos d.length with h | h
      · exact h
      · obtain ⟨b, off, e, _⟩ := hc 0 h
        cases e
    obtain rfl : d = [] := List.length_eq_zero_iff.1 h0
    clear hc
    have heq : ∀ W : World, (binOp .eql 26 (.slice none 0 0) (.slice none 0 0)).run Tryd.prog W = .ok (.bool true) W := fun W => by kernel_rfl
    go_enter Tryd.func22, Tryd.ntmps22
    go_wp2
    go_ret
    exact ⟨_, rfl, ⟨⟨rfl, .inl ⟨rfl, rfl⟩⟩, fun ad l c h => by cases h⟩, Below.refl _ _⟩
  | some ad =>
    have heq : ∀ W : World, (binOp .eql 26 (.slice (some ad) d.length cap) (.slice none 0 0)).run Tryd.prog W = .ok (.bool false) W := fun W => by kernel_rfl
    have hcell : ∀ W : World, Below w.heap.size w W → ∀ j u, ((bl d).map (Value.int .u8))[j]? = some u → W.cell? (ad.add j) = some u := fun W hW j u hu => by
      have hj : j < d.length := by
        have := (List.getElem?_eq_some_iff.1 hu).1
        simpa [bl_len] using this
      obtain ⟨b, off, e', hb, hcl⟩ := hc j hj
      obtain rfl : ad = ⟨b, off, none⟩ := Option.some.inj e'
      have : u = .int .u8 ((bl d).getD j 0) := by
        have hj' : j < (bl d).length := by rw [bl_len]; exact hj
        simp only [List.getElem?_map, List.getElem?_eq_getElem hj', Option.map_some, Option.some.injEq] at hu
        rw [← hu, List.getD_eq_getElem?_getD, List.getElem?_eq_getElem hj']; rfl
      rw [this, addr_add]
      exact (hW.cell hb).trans hcl
    replace hcell := hide hcell
    clear hc
    go_enter Tryd.func22, Tryd.ntmps22
    have hb0 : Below w.heap.size w (w.alloc (.cells #[] 5)) := (Below.refl _ _).alloc (Nat.le_refl _) _
    have hown0 : (w.alloc (.cells #[] 5)).ownsRow w.heap.size 5 1 (.slice (some ⟨w.heap.size, 0, none⟩) 0 0) 0 [] := ⟨rfl, .inr ⟨w.heap.size, 0, #[], rfl, Nat.le_refl _, hp1_0 w _, Nat.le_refl _, by decide, rfl, rfl⟩⟩
    go_wp2_with (at_builtin; refine wpList_append_own _ rfl (.tmp 5) (.tmp 6) 26 rfl w.heap.size 5 i0 (.int .u8 0) 1 1 Tryd.underlying26 hi hz0 hz1 hz2 rfl (by decide) (.slice (some ⟨w.heap.size, 0, none⟩) 0 0) 0 [] rfl hown0 ad d.length cap ((bl d).map (Value.int .u8)) rfl (by simp [bl_len]) (hcell.out _ hb0) (ints_one .u8 _) (by unfold maxLen; omega) (by omega) hb0.size ?_)
    intro v' w1 hown2 hgrow hnn
    have hn2 : Hid (v' ≠ .slice none 0 0) := hide hnn
    clear hnn
    have hw := hb0.grown hgrow hb0.size (fun k h => (hown0.lt k h).1)
    clear hgrow
    obtain ⟨ao', cap', rfl⟩ := slen_own5 hown2
    go_wp2
    go_ret
    refine ⟨_, rfl, ⟨?_, fun _ _ _ _ => hn2.out⟩, hw⟩
    unfold Own
    simpa using hown2
theorem a_clone5 (d : List B) (w : World) (v : Value) (hB : BysB w v d) : Calls Tryd.prog 22 #[v] w fun e w' => ∃ u, e = .returned u ∧ Own w' w.heap.size u d ∧ Below w.heap.size w w' := (a_clone2 d w v hB).mono fun _ _ ⟨u, h1, h2, h3⟩ => ⟨u, h1, h2.1, h3⟩

end Go.Proofs.YtamieopjigjfiabDoor


namespace Go.Proofs.YtamieopjigjfiabDoor
set_option maxRecDepth 100000
open Go Go.RowKit Go.Sort
attribute [local go_sem] setCell_drewN alloc_drewN


/-! A state's cells; a cipher's cells. -/
def srow (ws : List Wd) (g : Nat) (r : Int) : Array Value := irow .u32 (wl ws) ++ #[.pointer (some ⟨g, 0, none⟩), .int .i64 r]
theorem srow_size (ws : List Wd) (g : Nat) (r : Int) : (srow ws g r).size = ws.length + 2 := by simp [srow, irow_size, wl_len]
theorem srow_one (ws : List Wd) (g : Nat) (r : Int) : (srow ws g r).all (·.oneCell') = true := by
  rw [srow, Array.all_append, irow_one]; simp [Value.oneCell']
theorem srow_cell {W : World} {b g : Nat} {ws : List Wd} {r : Int} {t : TypeId} (hg : W.heap[b]? = some (.cells (srow ws g r) t (0, 0))) {j : Nat} (hj : j < ws.length) : W.cell? ⟨b, j, none⟩ = some (.int .u32 (wv (ws.getD j 0#32))) := by
  rw [cell_of_row W b j _ t (0, 0) hg, srow, Array.getElem?_append_left (by rw [irow_size, wl_len]; exact hj), irow_get _ _ _ (by rw [wl_len]; exact hj), wl_get]
theorem srow_ptr {W : World} {b g : Nat} {ws : List Wd} {r : Int} {t : TypeId} (hg : W.heap[b]? = some (.cells (srow ws g r) t (0, 0))) (hl : ws.length = 4) : W.cell? ⟨b, 4, none⟩ = some (.pointer (some ⟨g, 0, none⟩)) := by
  rw [cell_of_row W b 4 _ t (0, 0) hg, srow, Array.getElem?_append_right (by rw [irow_size, wl_len, hl]; omega), irow_size, wl_len, hl]; rfl
theorem srow_rnd {W : World} {b g : Nat} {ws : List Wd} {r : Int} {t : TypeId} (hg : W.heap[b]? = some (.cells (srow ws g r) t (0, 0))) (hl : ws.length = 4) : W.cell? ⟨b, 5, none⟩ = some (.int .i64 r) := by
  rw [cell_of_row W b 5 _ t (0, 0) hg, srow, Array.getElem?_append_right (by rw [irow_size, wl_len, hl]; omega), irow_size, wl_len, hl]; rfl
theorem srow_put (ws : List Wd) (g : Nat) (r : Int) (j : Nat) (z : Wd) (hj : j < ws.length) : (srow ws g r).setIfInBounds j (.int .u32 (wv z)) = srow (ws.set j z) g r := by
  rw [srow, Array.setIfInBounds_append_left (by rw [irow_size, wl_len]; exact hj), srow, ← wl_set]
  congr 1
  simp [irow, List.map_set]
theorem srow_set {W : World} {b g : Nat} {ws : List Wd} {r : Int} {t : TypeId} (hg : W.heap[b]? = some (.cells (srow ws g r) t (0, 0))) (j : Nat) (z : Wd) (hj : j < ws.length) : (W.setCell ⟨b, j, none⟩ (.int .u32 (wv z))).heap[b]? = some (.cells (srow (ws.set j z) g r) t (0, 0)) := by
  rw [heap_setCell_same W b j _ t _ hg, srow_put _ _ _ _ _ hj]
theorem srow_setr {W : World} {b g : Nat} {ws : List Wd} {r : Int} {t : TypeId} (hg : W.heap[b]? = some (.cells (srow ws g r) t (0, 0))) (hl : ws.length = 4) (z : Int) : (W.setCell ⟨b, 5, none⟩ (.int .i64 z)).heap[b]? = some (.cells (srow ws g z) t (0, 0)) := by
  rw [heap_setCell_same W b 5 _ t _ hg, srow, Array.setIfInBounds_append_right (by rw [irow_size, wl_len, hl]; omega), irow_size, wl_len, hl]; rfl
theorem infoS5 : (Tryd.prog.info? 85).map (·.size) = some 6 := by kernel_rfl
theorem info_sr (ws : List Wd) (g : Nat) (r : Int) (hl : ws.length = 4) : (Tryd.prog.info? 85).map (·.size) = some (srow ws g r).size := by
  rw [srow_size, hl]; exact infoS5
/-- A state of nothing. -/
def zst : Array Value := #[.int .u32 0, .int .u32 0, .int .u32 0, .int .u32 0, .pointer none, .int .i64 0]
theorem zSt (W : World) : (Instr.alloc 85 true (.tuple #[])).run Tryd.prog W = .ok (.pointer (some ⟨W.heap.size, 0, none⟩)) (W.alloc (.cells zst 85)) := by kernel_rfl
theorem bSt (cs : Array Value) (W : World) : (Instr.box 85 (.agg cs)).run Tryd.prog W = .ok (.pointer (some ⟨W.heap.size, 0, none⟩)) (W.alloc (.cells cs 85)) := by kernel_rfl
theorem srow_cols (ws : List Wd) (g : Nat) (r : Int) : (srow ws g r).extract 0 (0 + (irow .u32 (wl ws)).size) = irow .u32 (wl ws) := by
  rw [srow, Nat.zero_add]; simp
/-- A cipher's cells: the keys of its rounds, Sub and Back. -/
def cph (K : List B) : Array Value := irow .u32 (wl (wos K 60)) ++ (irow .u8 (bl sbl) ++ irow .u8 (bl bkl))
def Cph (W : World) (g : Nat) (K : List B) : Prop := W.heap[g]? = some (.cells (cph K) 76 (0, 0))
theorem Cph.keep {w W : World} {g : Nat} {K : List B} (h : Cph w g K) (hb : Below w.heap.size w W) : Cph W g K := Go.Proofs.YtamieopjigjfiabDoor.keep hb h
theorem Cph.sub {W : World} {g : Nat} {K : List B} (h : Cph W g K) (x : B) : W.cell? ⟨g, 60 + x.toNat, none⟩ = some (.int .u8 (bv (sb x))) := by
  have hx := x.isLt
  rw [cell_of_row W g _ _ _ (0, 0) h, cph, Array.getElem?_append_right (by rw [irow_size, wl_len, wos_len]; omega), Array.getElem?_append_left (by rw [irow_size, irow_size, wl_len, wos_len, bl_len, sbl_len]; omega), irow_size, wl_len, wos_len, show 60 + x.toNat - 60 = x.toNat by omega, irow_get _ _ _ (by rw [bl_len, sbl_len]; exact hx), bl_get, sbl_get]
theorem Cph.back {W : World} {g : Nat} {K : List B} (h : Cph W g K) (x : B) : W.cell? ⟨g, 316 + x.toNat, none⟩ = some (.int .u8 (bv (bk x))) := by
  have hx := x.isLt
  rw [cell_of_row W g _ _ _ (0, 0) h, cph, Array.getElem?_append_right (by rw [irow_size, wl_len, wos_len]; omega), Array.getElem?_append_right (by rw [irow_size, irow_size, wl_len, wos_len, bl_len, sbl_len]; omega), irow_size, wl_len, wos_len, irow_size, bl_len, sbl_len, show 316 + x.toNat - 60 - 256 = x.toNat by omega, irow_get _ _ _ (by rw [bl_len, bkl_len]; exact hx), bl_get, bkl_get]
/-- The words of the key of a round. -/
def kws (K : List B) (r : Nat) : List Wd := (List.range 4).map fun j => wo K (4 * r + j)
theorem kws_len (K : List B) (r : Nat) : (kws K r).length = 4 := by simp [kws]
theorem kws_get (K : List B) (r j : Nat) (h : j < 4) : (kws K r).getD j 0#32 = wo K (4 * r + j) := by
  simp [kws, List.getD_eq_getElem?_getD, h]
theorem cph_size (K : List B) : (cph K).size = 572 := by
  rw [cph, Array.size_append, Array.size_append, irow_size, irow_size, irow_size, wl_len, wos_len, bl_len, bl_len, sbl_len, bkl_len]
theorem cph_key (K : List B) (r : Nat) (hr : r < 15) : (cph K).extract (4 * r) (4 * r + (irow .u32 (wl (kws K r))).size) = irow .u32 (wl (kws K r)) := by
  apply Array.ext_getElem?
  intro j
  rw [irow_size, wl_len, kws_len]
  by_cases hj : j < 4
  · have hs := cph_size K
    have hlt : j < min (4 * r + 4) (cph K).size - 4 * r := by rw [hs]; omega
    rw [Array.getElem?_extract, if_pos hlt]
    clear hlt hs
    rw [cph, Array.getElem?_append_left (by rw [irow_size, wl_len, wos_len]; omega), irow_get _ _ _ (by rw [wl_len, wos_len]; omega), wl_get, wos_get _ _ _ (by omega), irow_get _ _ _ (by rw [wl_len, kws_len]; exact hj), wl_get, kws_get _ _ _ hj]
  · rw [Array.getElem?_eq_none (by rw [Array.size_extract]; omega), Array.getElem?_eq_none (by rw [irow_size, wl_len, kws_len]; omega)]
/-- Four words, the first k turned by f. -/
def up (f : Nat → Wd) (l : List B) (k : Nat) : List Wd := (List.range 4).map fun j => if j < k then f j else wo l j
theorem up_len (f : Nat → Wd) (l : List B) (k : Nat) : (up f l k).length = 4 := by simp [up]
theorem up_zero (f : Nat → Wd) (l : List B) : up f l 0 = wos l 4 := by
  apply List.map_congr_left
  intro j _
  rw [if_neg (by omega)]
theorem up_full (l m : List B) : up (wo m) l 4 = wos m 4 := by
  apply List.map_congr_left
  intro j hj
  rw [List.mem_range] at hj
  rw [if_pos hj]
theorem up_get (f : Nat → Wd) (l : List B) (k : Nat) (h : k < 4) : (up f l k).getD k 0#32 = wo l k := by
  simp [up, List.getD_eq_getElem?_getD, h]
theorem up_set (f : Nat → Wd) (l : List B) (k : Nat) (h : k < 4) : (up f l k).set k (f k) = up f l (k + 1) := by
  apply List.ext_getElem?
  intro j
  rw [List.getElem?_set]
  by_cases e : k = j
  · subst e
    rw [if_pos rfl, if_pos (by rw [up_len]; exact h)]
    simp [up, h]
  · rw [if_neg e]
    simp only [up, List.getElem?_map]
    by_cases hj : j < 4
    · simp only [List.getElem?_range hj, Option.map_some]
      by_cases h1 : j < k
      · rw [if_pos h1, if_pos (by omega)]
      · rw [if_neg h1, if_neg (by omega)]
    · rw [List.getElem?_eq_none (by simp; omega)]; rfl
theorem indexC (ws : List Wd) (hl : ws.length = 4) (j : Nat) (hj : j < 4) (W : World) : (Instr.index 72 (.agg (irow .u32 (wl ws))) (.int .i64 (j : Int))).run Tryd.prog W = .ok (.int .u32 (wv (ws.getD j 0#32))) W := by
  obtain ⟨i0, hi⟩ : ∃ i, Tryd.prog.info? 70 = some i := ⟨_, rfl⟩
  rw [← wl_get]
  exact index_row Tryd.underlying72 Tryd.underlying70 hi (fun W => by kernel_rfl) (wl ws) (by rw [wl_len, hl]) j hj W
/-! The steps, word by word. -/
theorem wo_xor (l m : List B) (k : Nat) (h : k < 4) : wo (xorL l m) k = wo l k ^^^ wo m k := by
  rw [wo, wo, wo, wd_xor, xorL_get _ _ (by omega), xorL_get _ _ (by omega), xorL_get _ _ (by omega), xorL_get _ _ (by omega)]
theorem wo_kr (K : List B) (r k : Nat) (h : k < 4) : wo (kr K r) k = wo K (4 * r + k) := by
  rw [wo, wo, kr, mk16_get _ (by omega), mk16_get _ (by omega), mk16_get _ (by omega), mk16_get _ (by omega), show 16 * r + 4 * k = 4 * (4 * r + k) by omega, show 16 * r + (4 * k + 1) = 4 * (4 * r + k) + 1 by omega, show 16 * r + (4 * k + 2) = 4 * (4 * r + k) + 2 by omega, show 16 * r + (4 * k + 3) = 4 * (4 * r + k) + 3 by omega]
theorem wo_sub (l : List B) (k : Nat) (h : k < 4) : wo (subL l) k = wd (sb (l.getD (4 * k) 0#8)) (sb (l.getD (4 * k + 1) 0#8)) (sb (l.getD (4 * k + 2) 0#8)) (sb (l.getD (4 * k + 3) 0#8)) := by
  rw [wo, subL_get _ (by omega), subL_get _ (by omega), subL_get _ (by omega), subL_get _ (by omega)]
theorem wo_unsub (l : List B) (k : Nat) (h : k < 4) : wo (unsubL l) k = wd (bk (l.getD (4 * k) 0#8)) (bk (l.getD (4 * k + 1) 0#8)) (bk (l.getD (4 * k + 2) 0#8)) (bk (l.getD (4 * k + 3) 0#8)) := by
  rw [wo, unsubL_get _ (by omega), unsubL_get _ (by omega), unsubL_get _ (by omega), unsubL_get _ (by omega)]
theorem wo_shift (l : List B) (k : Nat) (h : k < 4) : wo (shiftL l) k = wd (l.getD (4 * k) 0#8) (l.getD (4 * ((k + 1) % 4) + 1) 0#8) (l.getD (4 * ((k + 2) % 4) + 2) 0#8) (l.getD (4 * ((k + 3) % 4) + 3) 0#8) := by
  rw [wo, shiftL_get _ (by omega), shiftL_get _ (by omega), shiftL_get _ (by omega), shiftL_get _ (by omega)]
  congr 2 <;> omega
theorem wo_unshift (l : List B) (k : Nat) (h : k < 4) : wo (unshiftL l) k = wd (l.getD (4 * k) 0#8) (l.getD (4 * ((k + 3) % 4) + 1) 0#8) (l.getD (4 * ((k + 2) % 4) + 2) 0#8) (l.getD (4 * ((k + 1) % 4) + 3) 0#8) := by
  rw [wo, unshiftL_get _ (by omega), unshiftL_get _ (by omega), unshiftL_get _ (by omega), unshiftL_get _ (by omega)]
  congr 2 <;> omega
theorem wo_mix (l : List B) (k : Nat) (h : k < 4) (a b c d : B) (ha : a = l.getD (4 * k) 0#8) (hb : b = l.getD (4 * k + 1) 0#8) (hc : c = l.getD (4 * k + 2) 0#8) (hd : d = l.getD (4 * k + 3) 0#8) :
    wo (mixL l) k = wd (dbl (a ^^^ b)) (dbl (b ^^^ c)) (dbl (c ^^^ d)) (dbl (d ^^^ a)) ^^^ wd b c d a ^^^ wd c d a b ^^^ wd d a b c := by
  have q : ∀ r < 4, (mixL l).getD (4 * k + r) 0#8 = mg (mixL l) k r := fun r hr => by unfold mg; rw [Nat.mod_eq_of_lt hr]
  have m0 : ∀ r, mg l k (r + 4) = mg l k r := mg_add4 l k
  have e0 : mg l k 0 = a := by rw [ha]; rfl
  have e1 : mg l k 1 = b := by rw [hb]; rfl
  have e2 : mg l k 2 = c := by rw [hc]; rfl
  have e3 : mg l k 3 = d := by rw [hd]; rfl
  have e4 : mg l k 4 = a := (m0 0).trans e0
  have e5 : mg l k 5 = b := (m0 1).trans e1
  have e6 : mg l k 6 = c := (m0 2).trans e2
  rw [wo, show (mixL l).getD (4 * k) 0#8 = mg (mixL l) k 0 from q 0 (by omega), q 1 (by omega), q 2 (by omega), q 3 (by omega), mg_mix _ _ _ h, mg_mix _ _ _ h, mg_mix _ _ _ h, mg_mix _ _ _ h]
  simp only [Nat.zero_add, Nat.reduceAdd, e0, e1, e2, e3, e4, e5, e6, wd_xor, dbl_add _ _]

end Go.Proofs.YtamieopjigjfiabDoor

