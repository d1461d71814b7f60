import Derived.Test.YtgfeacnhdlgpoaaDoorHu
import Derived.Test.YtgfeacnhdlgpoaaDoorHp
namespace Go.Proofs.YtgfeacnhdlgpoaaDoor
set_option maxRecDepth 100000
open Go Go.RowKit Go.Sort

/-! Blocks in a row; a hash under way. -/
def wat (bs : List Int) (q i : Nat) : Int := bs.getD (64 * q + i) 0
def chunk (bs : List Int) (k : Nat) : List Int := prt (wat bs k) 64
def fol (h bs : List Int) : Nat → List Int
  | 0 => h
  | k + 1 => blk (fol h bs k) (chunk bs k)
theorem fol_len {h : List Int} (hl : h.length = 8) (bs : List Int) : ∀ k, (fol h bs k).length = 8
  | 0 => hl
  | _ + 1 => blk_len _ _
theorem fol_bd {h : List Int} (hz : ∀ x ∈ h, 0 ≤ x ∧ x < 4294967296) (bs : List Int) : ∀ k, ∀ x ∈ fol h bs k, 0 ≤ x ∧ x < 4294967296
  | 0 => hz
  | _ + 1 => sums_bd _ _
theorem prt_congr {W V : Nat → Int} {t : Nat} (h : ∀ j, j < t → j < 64 → W j = V j) : prt W t = prt V t := by
  unfold prt
  apply List.map_congr_left
  intro j hj
  rw [List.mem_range] at hj
  by_cases e : j < t
  · rw [if_pos e, if_pos e, h j e hj]
  · rw [if_neg e, if_neg e]
theorem chunk_len (bs : List Int) (k : Nat) : (chunk bs k).length = 64 := prt_len _ _
theorem getD_bd {bs : List Int} (hz : ∀ z ∈ bs, 0 ≤ z ∧ z < 256) (j : Nat) : 0 ≤ bs.getD j 0 ∧ bs.getD j 0 < 256 := by
  rw [List.getD_eq_getElem?_getD]
  by_cases h : j < bs.length
  · rw [List.getElem?_eq_getElem h]; exact hz _ (List.getElem_mem _)
  · rw [List.getElem?_eq_none (by omega)]; exact ⟨by decide, by decide⟩
theorem prt_bd {W : Nat → Int} (h : ∀ j, 0 ≤ W j ∧ W j < 256) (t : Nat) : ∀ z ∈ prt W t, 0 ≤ z ∧ z < 256 := by
  intro z hz
  simp only [prt, List.mem_map] at hz
  obtain ⟨j, _, rfl⟩ := hz
  split
  · exact h j
  · omega
theorem wat_bd {bs : List Int} (hz : ∀ z ∈ bs, 0 ≤ z ∧ z < 256) (q : Nat) : ∀ j, 0 ≤ wat bs q j ∧ wat bs q j < 256 := fun _ => getD_bd hz _
theorem chunk_bd {bs : List Int} (hz : ∀ z ∈ bs, 0 ≤ z ∧ z < 256) (k : Nat) : ∀ z ∈ chunk bs k, 0 ≤ z ∧ z < 256 := prt_bd (wat_bd hz k) 64
theorem getD_append_lt (a b : List Int) (j : Nat) (h : j < a.length) : (a ++ b).getD j 0 = a.getD j 0 := by
  rw [List.getD_eq_getElem?_getD, List.getD_eq_getElem?_getD, List.getElem?_append_left h]
theorem getD_append_ge (a b : List Int) (j : Nat) (h : a.length ≤ j) : (a ++ b).getD j 0 = b.getD (j - a.length) 0 := by
  rw [List.getD_eq_getElem?_getD, List.getD_eq_getElem?_getD, List.getElem?_append_right h]
theorem fol_append (h a b : List Int) : ∀ k, 64 * k ≤ a.length → fol h (a ++ b) k = fol h a k
  | 0, _ => rfl
  | k + 1, hk => by
    unfold fol
    rw [fol_append h a b k (by omega)]
    congr 1
    unfold chunk
    apply prt_congr
    intro j _ hj
    exact getD_append_lt a b _ (by omega)
theorem wat_append (a b : List Int) (q r : Nat) (hr : a.length = 64 * q + r) : prt (wat (a ++ b) q) r = prt (wat a q) r := prt_congr fun j hj _ => getD_append_lt a b _ (by omega)
/-- What is copied behind r bytes of a part. -/
theorem part_over (a c : List Int) (q r : Nat) (hr : a.length = 64 * q + r) (hc : r + c.length ≤ 64) : (prt (wat a q) r).take r ++ c ++ (prt (wat a q) r).drop (r + c.length) = prt (wat (a ++ c) q) (r + c.length) := by
  have hl := prt_len (wat a q) r
  apply List.ext_getElem?
  intro j
  by_cases h1 : j < r
  · rw [List.append_assoc, List.getElem?_append_left (by simp; omega), List.getElem?_take_of_lt h1]
    simp only [prt, List.getElem?_map, List.getElem?_range (show j < 64 by omega), Option.map_some, if_pos h1, if_pos (show j < r + c.length by omega)]
    rw [wat, wat, getD_append_lt a c _ (by omega)]
  · by_cases h2 : j < r + c.length
    · rw [List.getElem?_append_left (by simp; omega), List.getElem?_append_right (by simp; omega)]
      have e : ((prt (wat a q) r).take r).length = r := by simp; omega
      rw [e]
      simp only [prt, List.getElem?_map, List.getElem?_range (show j < 64 by omega), Option.map_some, if_pos h2]
      rw [wat, getD_append_ge a c _ (by omega), List.getElem?_eq_getElem (by omega), List.getD_eq_getElem?_getD, show 64 * q + j - a.length = j - r by omega, List.getElem?_eq_getElem (by omega)]
      rfl
    · rw [List.getElem?_append_right (by simp; omega), List.getElem?_drop]
      have e : r + c.length + (j - ((prt (wat a q) r).take r ++ c).length) = j := by simp; omega
      rw [e]
      by_cases hj : j < 64
      · simp only [prt, List.getElem?_map, List.getElem?_range hj, Option.map_some, if_neg h1, if_neg h2]
      · rw [List.getElem?_eq_none (by omega), List.getElem?_eq_none (by rw [prt_len]; omega)]
/-- The cells of a hash. -/
def hcells (ws ps : List Int) (sz : Int) : Array Value := (ws.map (Value.int .u32) ++ (ps.map (Value.int .u8) ++ [Value.int .u64 sz])).toArray
def hwords (bs : List Int) : List Int := fol sl bs (bs.length / 64)
def hpart (bs : List Int) : List Int := prt (wat bs (bs.length / 64)) (bs.length % 64)
def hst (bs : List Int) : Array Value := hcells (hwords bs) (hpart bs) (bs.length : Int)
theorem hwords_len (bs : List Int) : (hwords bs).length = 8 := fol_len rfl _ _
theorem hpart_len (bs : List Int) : (hpart bs).length = 64 := prt_len _ _
theorem sl_bd : ∀ x ∈ sl, 0 ≤ x ∧ x < 4294967296 := by decide
theorem hwords_bd (bs : List Int) : ∀ x ∈ hwords bs, 0 ≤ x ∧ x < 4294967296 := fol_bd sl_bd _ _
theorem hpart_bd {bs : List Int} (hz : ∀ z ∈ bs, 0 ≤ z ∧ z < 256) : ∀ z ∈ hpart bs, 0 ≤ z ∧ z < 256 := prt_bd (wat_bd hz _) _
theorem hst_nil : hst [] = hcells sl (zr 64) 0 := rfl
/-- Bytes behind, the block not full. -/
theorem hst_less (a c : List Int) (h : a.length % 64 + c.length < 64) : hst (a ++ c) = hcells (hwords a) (prt (wat (a ++ c) (a.length / 64)) (a.length % 64 + c.length)) ((a.length : Int) + c.length) := by
  have e1 : (a ++ c).length / 64 = a.length / 64 := by rw [List.length_append]; omega
  have e2 : (a ++ c).length % 64 = a.length % 64 + c.length := by rw [List.length_append]; omega
  unfold hst hwords hpart
  rw [e1, e2, fol_append _ _ _ _ (by omega), List.length_append]
  rfl
/-- Bytes behind, the block full. -/
theorem hst_full (a c : List Int) (h : a.length % 64 + c.length = 64) : hst (a ++ c) = hcells (blk (hwords a) (prt (wat (a ++ c) (a.length / 64)) 64)) (zr 64) ((a.length : Int) + c.length) := by
  have e1 : (a ++ c).length / 64 = a.length / 64 + 1 := by rw [List.length_append]; omega
  have e2 : (a ++ c).length % 64 = 0 := by rw [List.length_append]; omega
  unfold hst hwords hpart
  rw [e1, e2, fol, fol_append _ _ _ _ (by omega), List.length_append, prt_zero]
  rfl
theorem hcells_size (ws ps : List Int) (sz : Int) (h1 : ws.length = 8) (h2 : ps.length = 64) : (hcells ws ps sz).size = 73 := by simp [hcells, h1, h2]
theorem hcells_words (ws ps : List Int) (sz : Int) (h1 : ws.length = 8) : (hcells ws ps sz).extract 0 (0 + 8) = irow .u32 ws := by
  apply Array.ext'
  simp [hcells, irow, h1]
theorem hcells_part (ws ps : List Int) (sz : Int) (h1 : ws.length = 8) (h2 : ps.length = 64) : (hcells ws ps sz).extract 8 (8 + 64) = irow .u8 ps := by
  apply Array.ext'
  simp [hcells, irow, h1, h2]
theorem hcells_at (ws ps : List Int) (sz : Int) (h1 : ws.length = 8) (h2 : ps.length = 64) : (hcells ws ps sz)[72]? = some (.int .u64 sz) := by
  simp [hcells, h1, h2]
theorem hcells_setsz (ws ps : List Int) (sz z : Int) (h1 : ws.length = 8) (h2 : ps.length = 64) : (hcells ws ps sz).setIfInBounds 72 (.int .u64 z) = hcells ws ps z := by
  apply Array.ext'
  simp [hcells, h1, h2]
/-- What copy makes of the part. -/
theorem hcells_copy (ws ps c : List Int) (sz : Int) (o : Nat) (h1 : ws.length = 8) (h2 : ps.length = 64) (hc : o + c.length ≤ 64) : ((hcells ws ps sz).toList.take (8 + o) ++ c.map (Value.int .u8) ++ (hcells ws ps sz).toList.drop (8 + o + (c.map (Value.int .u8)).length)).toArray = hcells ws (ps.take o ++ c ++ ps.drop (o + c.length)) sz := by
  apply Array.ext'
  have e1 : 8 + o - ws.length = o := by omega
  have e2 : 8 + o + c.length - ws.length = o + c.length := by omega
  simp only [hcells, List.length_map, List.take_append, List.drop_append, h1, h2, List.map_append, List.map_take, List.map_drop]
  rw [List.take_of_length_le (show (ws.map (Value.int .u32)).length ≤ 8 + o by simp; omega), List.drop_eq_nil_of_le (show (ws.map (Value.int .u32)).length ≤ 8 + o + c.length by simp; omega), show 8 + o - 8 = o by omega, show 8 + o + c.length - 8 = o + c.length by omega, show o - 64 = 0 by omega, show o + c.length - 64 = 0 by omega]
  simp [List.append_assoc]
theorem ovw_list : ∀ (vs : List Value) (cs : Array Value) (o : Nat), o + vs.length ≤ cs.size → (ovw cs o vs).toList = cs.toList.take o ++ vs ++ cs.toList.drop (o + vs.length)
  | [], cs, o, _ => by simp [ovw]
  | v :: r, cs, o, h => by
    have h' : o < cs.toList.length := by simp at h ⊢; omega
    rw [ovw, ovw_list r _ _ (by simp at h ⊢; omega), Array.toList_setIfInBounds, List.set_eq_take_append_cons_drop, if_pos h']
    have e : (cs.toList.take o).length = o := by rw [List.length_take]; omega
    rw [List.take_append, List.drop_append, e, List.take_take, show min (o + 1) o = o by omega, show o + 1 - o = 1 by omega, List.drop_eq_nil_of_le (show (cs.toList.take o).length ≤ o + 1 + r.length by omega), show o + 1 + r.length - o = r.length + 1 by omega, List.drop_succ_cons, List.drop_drop, List.length_cons, show o + 1 + r.length = o + (r.length + 1) by omega]
    simp
theorem hcells_setwords (ws vs ps : List Int) (sz : Int) (h1 : ws.length = 8) (h2 : ps.length = 64) (h3 : vs.length = 8) : ovw (hcells ws ps sz) 0 (irow .u32 vs).toList = hcells vs ps sz := by
  apply Array.ext'
  rw [ovw_list _ _ _ (by rw [hcells_size _ _ _ h1 h2]; simp [irow, h3])]
  simp [hcells, irow, h1, h3]
theorem hcells_setpart (ws ps qs : List Int) (sz : Int) (h1 : ws.length = 8) (h2 : ps.length = 64) (h3 : qs.length = 64) : ovw (hcells ws ps sz) 8 (irow .u8 qs).toList = hcells ws qs sz := by
  apply Array.ext'
  rw [ovw_list _ _ _ (by rw [hcells_size _ _ _ h1 h2]; simp [irow, h3])]
  simp only [hcells, irow, h1, h3, List.length_map, List.take_append, List.take_of_length_le (show (ws.map (Value.int .u32)).length ≤ 8 by simp; omega)]
  rw [show 8 - 8 = 0 from rfl, List.take_zero, ← List.append_assoc (ws.map (Value.int .u32)) (ps.map (Value.int .u8)), List.drop_left' (by simp; omega)]
  simp
theorem hcells_one (ws ps : List Int) (sz : Int) : (hcells ws ps sz).all (·.oneCell') = true := by
  simp only [hcells, List.all_toArray, List.all_append, List.all_map, Bool.and_eq_true, List.all_eq_true, List.all_cons, List.all_nil]
  exact ⟨fun _ _ => rfl, fun _ _ => rfl, rfl, trivial⟩
end Go.Proofs.YtgfeacnhdlgpoaaDoor
