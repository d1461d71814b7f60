import Derived.Test.YtmcokphkaekdaabS0
import Derived.Test.YtmcokphkaekdaabProg
import Derived.WalkKit
import Derived.WalkSpells
import Derived.WalkLawsBesides
import Derived.Lib.QuietBelow
import Derived.BigQuiet
import Derived.Deep.RegionLaw
import Derived.Deep.RegionHeld3
import Derived.Laws.BytesArg
import Derived.OwnWalk
namespace Go.Proofs.Ytmcokphkaekdaab
open Go Go.RowKit Go.Sort

/-! Blocks in a row; a hash under way. -/
def wat (bs : List Int) (q i : Nat) : Int := bs.getD (64 * q + i) 0
def chunk (bs : List Int) (k : Nat) : List Int := prt (wat bs k) 64
def fol (h bs : List Int) : Nat → List Int
  | 0 => h
  | k + 1 => blk (fol h bs k) (chunk bs k)
theorem fol_len {h : List Int} (hl : h.length = 8) (bs : List Int) : ∀ k, (fol h bs k).length = 8
  | 0 => hl
  | _ + 1 => blk_len _ _
theorem fol_bd {h : List Int} (hz : ∀ x ∈ h, 0 ≤ x ∧ x < 4294967296) (bs : List Int) : ∀ k, ∀ x ∈ fol h bs k, 0 ≤ x ∧ x < 4294967296
  | 0 => hz
  | _ + 1 => sums_bd _ _
theorem prt_congr {W V : Nat → Int} {t : Nat} (h : ∀ j, j < t → j < 64 → W j = V j) : prt W t = prt V t := by
  unfold prt
  apply List.map_congr_left
  intro j hj
  rw [List.mem_range] at hj
  by_cases e : j < t
  · rw [if_pos e, if_pos e, h j e hj]
  · rw [if_neg e, if_neg e]
theorem chunk_len (bs : List Int) (k : Nat) : (chunk bs k).length = 64 := prt_len _ _
theorem getD_bd {bs : List Int} (hz : ∀ z ∈ bs, 0 ≤ z ∧ z < 256) (j : Nat) : 0 ≤ bs.getD j 0 ∧ bs.getD j 0 < 256 := by
  rw [List.getD_eq_getElem?_getD]
  by_cases h : j < bs.length
  · rw [List.getElem?_eq_getElem h]; exact hz _ (List.getElem_mem _)
  · rw [List.getElem?_eq_none (by omega)]; exact ⟨by decide, by decide⟩
theorem prt_bd {W : Nat → Int} (h : ∀ j, 0 ≤ W j ∧ W j < 256) (t : Nat) : ∀ z ∈ prt W t, 0 ≤ z ∧ z < 256 := by
  intro z hz
  simp only [prt, List.mem_map] at hz
  obtain ⟨j, _, rfl⟩ := hz
  split
  · exact h j
  · omega
theorem wat_bd {bs : List Int} (hz : ∀ z ∈ bs, 0 ≤ z ∧ z < 256) (q : Nat) : ∀ j, 0 ≤ wat bs q j ∧ wat bs q j < 256 := fun _ => getD_bd hz _
theorem chunk_bd {bs : List Int} (hz : ∀ z ∈ bs, 0 ≤ z ∧ z < 256) (k : Nat) : ∀ z ∈ chunk bs k, 0 ≤ z ∧ z < 256 := prt_bd (wat_bd hz k) 64
theorem getD_append_lt (a b : List Int) (j : Nat) (h : j < a.length) : (a ++ b).getD j 0 = a.getD j 0 := by
  rw [List.getD_eq_getElem?_getD, List.getD_eq_getElem?_getD, List.getElem?_append_left h]
theorem getD_append_ge (a b : List Int) (j : Nat) (h : a.length ≤ j) : (a ++ b).getD j 0 = b.getD (j - a.length) 0 := by
  rw [List.getD_eq_getElem?_getD, List.getD_eq_getElem?_getD, List.getElem?_append_right h]
theorem fol_append (h a b : List Int) : ∀ k, 64 * k ≤ a.length → fol h (a ++ b) k = fol h a k
  | 0, _ => rfl
  | k + 1, hk => by
    unfold fol
    rw [fol_append h a b k (by omega)]
    congr 1
    unfold chunk
    apply prt_congr
    intro j _ hj
    exact getD_append_lt a b _ (by omega)
theorem wat_append (a b : List Int) (q r : Nat) (hr : a.length = 64 * q + r) : prt (wat (a ++ b) q) r = prt (wat a q) r := prt_congr fun j hj _ => getD_append_lt a b _ (by omega)
/-- What is copied behind r bytes of a part. -/
theorem part_over (a c : List Int) (q r : Nat) (hr : a.length = 64 * q + r) (hc : r + c.length ≤ 64) : (prt (wat a q) r).take r ++ c ++ (prt (wat a q) r).drop (r + c.length) = prt (wat (a ++ c) q) (r + c.length) := by
  have hl := prt_len (wat a q) r
  apply List.ext_getElem?
  intro j
  by_cases h1 : j < r
  · rw [List.append_assoc, List.getElem?_append_left (by simp; omega), List.getElem?_take_of_lt h1]
    simp only [prt, List.getElem?_map, List.getElem?_range (show j < 64 by omega), Option.map_some, if_pos h1, if_pos (show j < r + c.length by omega)]
    rw [wat, wat, getD_append_lt a c _ (by omega)]
  · by_cases h2 : j < r + c.length
    · rw [List.getElem?_append_left (by simp; omega), List.getElem?_append_right (by simp; omega)]
      have e : ((prt (wat a q) r).take r).length = r := by simp; omega
      rw [e]
      simp only [prt, List.getElem?_map, List.getElem?_range (show j < 64 by omega), Option.map_some, if_pos h2]
      rw [wat, getD_append_ge a c _ (by omega), List.getElem?_eq_getElem (by omega), List.getD_eq_getElem?_getD, show 64 * q + j - a.length = j - r by omega, List.getElem?_eq_getElem (by omega)]
      rfl
    · rw [List.getElem?_append_right (by simp; omega), List.getElem?_drop]
      have e : r + c.length + (j - ((prt (wat a q) r).take r ++ c).length) = j := by simp; omega
      rw [e]
      by_cases hj : j < 64
      · simp only [prt, List.getElem?_map, List.getElem?_range hj, Option.map_some, if_neg h1, if_neg h2]
      · rw [List.getElem?_eq_none (by omega), List.getElem?_eq_none (by rw [prt_len]; omega)]
/-- The cells of a hash. -/
def hcells (ws ps : List Int) (sz : Int) : Array Value := (ws.map (Value.int .u32) ++ (ps.map (Value.int .u8) ++ [Value.int .u64 sz])).toArray
def hwords (bs : List Int) : List Int := fol sl bs (bs.length / 64)
def hpart (bs : List Int) : List Int := prt (wat bs (bs.length / 64)) (bs.length % 64)
def hst (bs : List Int) : Array Value := hcells (hwords bs) (hpart bs) (bs.length : Int)
theorem hwords_len (bs : List Int) : (hwords bs).length = 8 := fol_len rfl _ _
theorem hpart_len (bs : List Int) : (hpart bs).length = 64 := prt_len _ _
theorem sl_bd : ∀ x ∈ sl, 0 ≤ x ∧ x < 4294967296 := by decide
theorem hwords_bd (bs : List Int) : ∀ x ∈ hwords bs, 0 ≤ x ∧ x < 4294967296 := fol_bd sl_bd _ _
theorem hpart_bd {bs : List Int} (hz : ∀ z ∈ bs, 0 ≤ z ∧ z < 256) : ∀ z ∈ hpart bs, 0 ≤ z ∧ z < 256 := prt_bd (wat_bd hz _) _
theorem hst_nil : hst [] = hcells sl (zr 64) 0 := rfl
/-- Bytes behind, the block not full. -/
theorem hst_less (a c : List Int) (h : a.length % 64 + c.length < 64) : hst (a ++ c) = hcells (hwords a) (prt (wat (a ++ c) (a.length / 64)) (a.length % 64 + c.length)) ((a.length : Int) + c.length) := by
  have e1 : (a ++ c).length / 64 = a.length / 64 := by rw [List.length_append]; omega
  have e2 : (a ++ c).length % 64 = a.length % 64 + c.length := by rw [List.length_append]; omega
  unfold hst hwords hpart
  rw [e1, e2, fol_append _ _ _ _ (by omega), List.length_append]
  rfl
/-- Bytes behind, the block full. -/
theorem hst_full (a c : List Int) (h : a.length % 64 + c.length = 64) : hst (a ++ c) = hcells (blk (hwords a) (prt (wat (a ++ c) (a.length / 64)) 64)) (zr 64) ((a.length : Int) + c.length) := by
  have e1 : (a ++ c).length / 64 = a.length / 64 + 1 := by rw [List.length_append]; omega
  have e2 : (a ++ c).length % 64 = 0 := by rw [List.length_append]; omega
  unfold hst hwords hpart
  rw [e1, e2, fol, fol_append _ _ _ _ (by omega), List.length_append, prt_zero]
  rfl
theorem hcells_size (ws ps : List Int) (sz : Int) (h1 : ws.length = 8) (h2 : ps.length = 64) : (hcells ws ps sz).size = 73 := by simp [hcells, h1, h2]
theorem hcells_words (ws ps : List Int) (sz : Int) (h1 : ws.length = 8) : (hcells ws ps sz).extract 0 (0 + 8) = irow .u32 ws := by
  apply Array.ext'
  simp [hcells, irow, h1]
theorem hcells_part (ws ps : List Int) (sz : Int) (h1 : ws.length = 8) (h2 : ps.length = 64) : (hcells ws ps sz).extract 8 (8 + 64) = irow .u8 ps := by
  apply Array.ext'
  simp [hcells, irow, h1, h2]
theorem hcells_at (ws ps : List Int) (sz : Int) (h1 : ws.length = 8) (h2 : ps.length = 64) : (hcells ws ps sz)[72]? = some (.int .u64 sz) := by
  simp [hcells, h1, h2]
theorem hcells_setsz (ws ps : List Int) (sz z : Int) (h1 : ws.length = 8) (h2 : ps.length = 64) : (hcells ws ps sz).setIfInBounds 72 (.int .u64 z) = hcells ws ps z := by
  apply Array.ext'
  simp [hcells, h1, h2]
/-- What copy makes of the part. -/
theorem hcells_copy (ws ps c : List Int) (sz : Int) (o : Nat) (h1 : ws.length = 8) (h2 : ps.length = 64) (hc : o + c.length ≤ 64) : ((hcells ws ps sz).toList.take (8 + o) ++ c.map (Value.int .u8) ++ (hcells ws ps sz).toList.drop (8 + o + (c.map (Value.int .u8)).length)).toArray = hcells ws (ps.take o ++ c ++ ps.drop (o + c.length)) sz := by
  apply Array.ext'
  have e1 : 8 + o - ws.length = o := by omega
  have e2 : 8 + o + c.length - ws.length = o + c.length := by omega
  simp only [hcells, List.length_map, List.take_append, List.drop_append, h1, h2, List.map_append, List.map_take, List.map_drop]
  rw [List.take_of_length_le (show (ws.map (Value.int .u32)).length ≤ 8 + o by simp; omega), List.drop_eq_nil_of_le (show (ws.map (Value.int .u32)).length ≤ 8 + o + c.length by simp; omega), show 8 + o - 8 = o by omega, show 8 + o + c.length - 8 = o + c.length by omega, show o - 64 = 0 by omega, show o + c.length - 64 = 0 by omega]
  simp [List.append_assoc]
theorem ovw_list : ∀ (vs : List Value) (cs : Array Value) (o : Nat), o + vs.length ≤ cs.size → (ovw cs o vs).toList = cs.toList.take o ++ vs ++ cs.toList.drop (o + vs.length)
  | [], cs, o, _ => by simp [ovw]
  | v :: r, cs, o, h => by
    have h' : o < cs.toList.length := by simp at h ⊢; omega
    rw [ovw, ovw_list r _ _ (by simp at h ⊢; omega), Array.toList_setIfInBounds, List.set_eq_take_append_cons_drop, if_pos h']
    have e : (cs.toList.take o).length = o := by rw [List.length_take]; omega
    rw [List.take_append, List.drop_append, e, List.take_take, show min (o + 1) o = o by omega, show o + 1 - o = 1 by omega, List.drop_eq_nil_of_le (show (cs.toList.take o).length ≤ o + 1 + r.length by omega), show o + 1 + r.length - o = r.length + 1 by omega, List.drop_succ_cons, List.drop_drop, List.length_cons, show o + 1 + r.length = o + (r.length + 1) by omega]
    simp
theorem hcells_setwords (ws vs ps : List Int) (sz : Int) (h1 : ws.length = 8) (h2 : ps.length = 64) (h3 : vs.length = 8) : ovw (hcells ws ps sz) 0 (irow .u32 vs).toList = hcells vs ps sz := by
  apply Array.ext'
  rw [ovw_list _ _ _ (by rw [hcells_size _ _ _ h1 h2]; simp [irow, h3])]
  simp [hcells, irow, h1, h3]
theorem hcells_setpart (ws ps qs : List Int) (sz : Int) (h1 : ws.length = 8) (h2 : ps.length = 64) (h3 : qs.length = 64) : ovw (hcells ws ps sz) 8 (irow .u8 qs).toList = hcells ws qs sz := by
  apply Array.ext'
  rw [ovw_list _ _ _ (by rw [hcells_size _ _ _ h1 h2]; simp [irow, h3])]
  simp only [hcells, irow, h1, h3, List.length_map, List.take_append, List.take_of_length_le (show (ws.map (Value.int .u32)).length ≤ 8 by simp; omega)]
  rw [show 8 - 8 = 0 from rfl, List.take_zero, ← List.append_assoc (ws.map (Value.int .u32)) (ps.map (Value.int .u8)), List.drop_left' (by simp; omega)]
  simp
theorem hcells_one (ws ps : List Int) (sz : Int) : (hcells ws ps sz).all (·.oneCell') = true := by
  simp only [hcells, List.all_toArray, List.all_append, List.all_map, Bool.and_eq_true, List.all_eq_true, List.all_cons, List.all_nil]
  exact ⟨fun _ _ => rfl, fun _ _ => rfl, rfl, trivial⟩
end Go.Proofs.Ytmcokphkaekdaab

namespace Go.Proofs.Ytmcokphkaekdaab
open Go Go.RowKit Go.Sort
attribute [local go_sem] setCell_drewN alloc_drewN

def kvals (l : List Int) : Nat → List (Nat × Value) := fun n => (List.range n).map fun i => (i, .int .u32 (l.getD i 0))
end Go.Proofs.Ytmcokphkaekdaab


namespace Go.Proofs.Ytmcokphkaekdaab
open Go Go.RowKit Go.Sort
attribute [local go_sem] setCell_drewN alloc_drewN

theorem st0_list (h : List Int) (hl : h.length = 8) : (st0 h).list = h := by
  match h, hl with
  | [a, b, c, d, e, f, g, x], _ => rfl
end Go.Proofs.Ytmcokphkaekdaab


namespace Go.Proofs.Ytmcokphkaekdaab
open Go Go.RowKit Go.Sort
attribute [local go_sem] setCell_drewN alloc_drewN

/-- How long a slice is. -/
def slen : Value → Nat
  | .slice _ l _ => l
  | _ => 0
theorem slen_own {W : World} {b : Nat} {T : TypeId} {sz : Nat} {v : Value} {n : Nat} {xs : List Value} (h : W.ownsRow b T sz v n xs) : ∃ ao cap, v = .slice ao n cap := by
  obtain ⟨_, ⟨rfl, rfl⟩ | ⟨g, cap, cur, rfl, _⟩⟩ := h
  · exact ⟨_, _, rfl⟩
  · exact ⟨_, _, rfl⟩
theorem info8 : ∃ i, Try.prog.info? 5 = some i ∧ i.zero = some (.int .u8 0) ∧ i.size = 1 ∧ i.bytes = 1 := ⟨_, rfl, rfl, rfl, rfl⟩
/-- The beginning of the padding, by its length. -/
theorem pad_first (n : Nat) : (padL n).take 1 = [128] := by
  have hb := plen_bd n
  obtain ⟨m, hm⟩ : ∃ m, plen n = m + 1 := ⟨plen n - 1, by omega⟩
  simp [padL, padP, hm, List.range_succ_eq_map]
theorem pad_get (n j : Nat) (hj : j < plen n) : (padL n)[j]? = some (if j = 0 then 128 else if plen n - 8 ≤ j then pbit n (plen n - 1 - j) else 0) := by
  simp [padL, padP, hj]
theorem take_next {α : Type} (l : List α) (k : Nat) (x : α) (h : l[k]? = some x) : l.take k ++ [x] = l.take (k + 1) := by
  rw [List.take_add_one, h]; rfl
theorem new_cell (wr : World) (x : Int) : ∀ j u, [Value.int .u8 x][j]? = some u → (wr.alloc (.cells #[.int .u8 x] 5)).cell? ((⟨wr.heap.size, 0, none⟩ : Addr).add j) = some u := by
  intro j u hu
  have hj : j = 0 := by
    have := (List.getElem?_eq_some_iff.1 hu).1
    simp at this
    exact this
  subst hj
  simp at hu
  subst hu
  rw [addr_add]
  have hg : (wr.alloc (.cells #[.int .u8 x] 5)).heap[wr.heap.size]? = some (.cells #[.int .u8 x] 5 (0, 0)) := hp1_0 wr _
  simp only [World.cell?, hg]
  rfl
end Go.Proofs.Ytmcokphkaekdaab


namespace Go.Proofs.Ytmcokphkaekdaab
open Go Go.RowKit Go.Sort
attribute [local go_sem] setCell_drewN alloc_drewN

/-- A slice that came in: its bytes, how many there may be, and no room behind nothing. -/
def BysN (W : World) (v : Value) (bs : List Int) : Prop := Bys W v bs ∧ bs.length ≤ 140737488351232 ∧ (∀ a l c, v = .slice a l c → a = none → c = 0)
theorem div_of {k n : Nat} (h : 64 * k ≤ n) (h2 : ¬ 64 * k + 64 ≤ n) : n / 64 = k := by omega
end Go.Proofs.Ytmcokphkaekdaab


namespace Go.Proofs.Ytmcokphkaekdaab
open Go Go.RowKit Go.Sort
attribute [local go_sem] setCell_drewN alloc_drewN

/-- The hash of bytes. -/
def sumW (bs : List Int) : List Int := fol sl (bs ++ padL bs.length) ((bs ++ padL bs.length).length / 64)
def sumL (bs : List Int) : List Int := byts (sumW bs)
theorem sumW_len (bs : List Int) : (sumW bs).length = 8 := fol_len rfl _ _
theorem sumW_bd (bs : List Int) : ∀ x ∈ sumW bs, 0 ≤ x ∧ x < 4294967296 := fol_bd sl_bd _ _
theorem sumL_len (bs : List Int) : (sumL bs).length = 32 := byts_len _
theorem padL_len (n : Nat) : (padL n).length = plen n := padP_len n 8
theorem bys_none {W : World} {ao : Option Addr} {cap : Nat} {bs : List Int} (hB : Bys W (.slice ao bs.length cap) bs) (hn : ∀ a l c, Value.slice ao bs.length cap = .slice a l c → a = none → c = 0) : ao = none → bs.length = 0 ∧ cap = 0 := by
  intro h
  refine ⟨?_, hn _ _ _ rfl h⟩
  obtain ⟨ao', cap', e, _, hc, _⟩ := hB
  cases e
  rcases Nat.eq_zero_or_pos bs.length with e | e
  · exact e
  · obtain ⟨b, off, e', _⟩ := hc 0 e
    rw [h] at e'; cases e'
theorem bys_cells {W : World} {ao : Option Addr} {cap : Nat} {bs : List Int} (hB : Bys W (.slice ao bs.length cap) bs) : ∀ ad, ao = some ad → ∀ j u, (bs.map (Value.int .u8))[j]? = some u → W.cell? (ad.add j) = some u := by
  obtain ⟨ao', cap', e, _, hc, _⟩ := hB
  cases e
  intro ad had j u hu
  have hj : j < bs.length := by have := (List.getElem?_eq_some_iff.1 hu).1; simpa using this
  obtain ⟨b, off, e', hb, hcl⟩ := hc j hj
  obtain rfl : ad = ⟨b, off, none⟩ := Option.some.inj (had.symm.trans e')
  have : u = .int .u8 (bs.getD j 0) := by
    simp only [List.getElem?_map, List.getElem?_eq_getElem hj, Option.map_some, Option.some.injEq] at hu
    rw [← hu, List.getD_eq_getElem?_getD, List.getElem?_eq_getElem hj]; rfl
  rw [this, addr_add]
  exact hcl
theorem Bys.of_own {W : World} {b n : Nat} {v : Value} {l : List Int} (h : W.ownsRow b 5 1 v n (l.map (Value.int .u8))) (hl : l.length ≤ 9223372036854775807) (hz : ∀ z ∈ l, 0 ≤ z ∧ z < 256) : Bys W v l := by
  obtain ⟨h1, ⟨rfl, rfl⟩ | ⟨g, cap, cur, rfl, hb, hg, hn, hm, hs, ht⟩⟩ := h
  · have : l = [] := List.eq_nil_of_length_eq_zero (by simpa using h1)
    subst this
    exact ⟨none, 0, rfl, by decide, fun j hj => by simp at hj, by simp⟩
  · have hln : l.length = n := by simpa using h1
    refine ⟨_, cap, by rw [hln], hl, fun j hj => ⟨g, 0, rfl, lt_of_row hg, ?_⟩, hz⟩
    rw [Nat.zero_add, cell_of_row _ _ _ _ _ _ hg]
    have h2 := congrArg (fun q => q[j]?) ht
    simp only [Nat.mul_one] at h2
    rw [List.getElem?_take_of_lt (by omega), List.getElem?_map, List.getElem?_eq_getElem hj] at h2
    rw [← Array.getElem?_toList, h2, List.getD_eq_getElem?_getD, List.getElem?_eq_getElem hj]
    rfl
theorem own_keep {W W' : World} {b n : Nat} {T : TypeId} {v : Value} {xs : List Value} (h : W.ownsRow b T 1 v n xs) (hb : Below W.heap.size W W') : W'.ownsRow b T 1 v n xs := by
  obtain ⟨h1, h2 | ⟨g, cap, cur, rfl, hb2, hg, h3⟩⟩ := h
  · exact ⟨h1, .inl h2⟩
  · exact ⟨h1, .inr ⟨g, cap, cur, rfl, hb2, keep hb hg, h3⟩⟩
theorem both_bd {a b : List Int} (ha : ∀ z ∈ a, 0 ≤ z ∧ z < 256) (hb : ∀ z ∈ b, 0 ≤ z ∧ z < 256) : ∀ z ∈ a ++ b, 0 ≤ z ∧ z < 256 := fun z hz => (List.mem_append.1 hz).elim (ha z) (hb z)
end Go.Proofs.Ytmcokphkaekdaab


namespace Go.Proofs.Ytmcokphkaekdaab
open Go Go.RowKit Go.Sort
attribute [local go_sem] setCell_drewN alloc_drewN

/-- An append whose row is either the old one or a new block. -/
theorem wpList_append_two {P : Program} (w : World) {ops : Array Oper} {rest : List Oper} {o : Oper} {a : Act} {Q : Exit → Act → World → Prop} (hgd : o.guard = none) (s x : Operand) (t : TypeId)
    (ho : o.op = .call { callee := .builtin .append, args := #[s, x], argTypes := #[t, t] })
    (base : Nat) (e : TypeId) (i : TypeInfo) (z : Value) (ht : P.underlying t = some (.slice e)) (hi : P.info? e = some i) (hz : i.zero = some z)
    (hsize : i.size = 1) (hby : i.bytes = 1) (hzs : z.cells.size = 1)
    (g n cap : Nat) (xs : List Value) (hs : a.eval s = .slice (some ⟨g, 0, none⟩) n cap) (hown : w.ownsRow base e 1 (.slice (some ⟨g, 0, none⟩) n cap) n xs)
    (ad : Addr) (m c : Nat) (news : List Value) (hx : a.eval x = .slice (some ad) m c) (hl : news.length = m * 1) (hnews : ∀ j u, news[j]? = some u → w.cell? (ad.add j) = some u) (h1 : ∀ u ∈ news, u.oneCell' = true)
    (h63 : n + m ≤ maxLen) (hbytes : (n + m) * 1 ≤ 140737488355328) (hbase : base ≤ w.heap.size)
    (h : ∀ g' cap' w', w'.ownsRow base e 1 (.slice (some ⟨g', 0, none⟩) (n + m) cap') (n + m) (xs ++ news) → w.grownBy w' (some g) → (g' = g ∨ g' = w.heap.size) → wpList P ops Q rest (a.put o.dst (.slice (some ⟨g', 0, none⟩) (n + m) cap')) w') : wpList P ops Q (o :: rest) a w := by
  refine wpList_plain hgd fun K hK => ?_
  obtain ⟨v', w', hr, h2, h3, _⟩ := run_append_own (P := P) w base t o.type e i z 1 1 ht hi hz hsize hby hzs (by decide) _ n xs hown ad m c news hl hnews h1 h63 hbytes hbase
  have key : ∃ g' cap', v' = .slice (some ⟨g', 0, none⟩) (n + m) cap' ∧ (g' = g ∨ g' = w.heap.size) := by
    rcases hown.2 with ⟨hv, _⟩ | ⟨g1, cap1, cur, hv, hbg, hg, hnc, hcm, hcs, htake⟩
    · cases hv
    · cases hv
      by_cases hroom : n + m ≤ cap
      · have hr2 := run_append_room (P := P) w t o.type e i ht hi g n cap cur hg ad m c news (by rw [hsize]; exact hl) hnews h1 hroom (by rw [hsize, hl, hcs]; omega)
        have := hr.symm.trans hr2
        injection this with e1 e2
        exact ⟨g, cap, e1, .inl rfl⟩
      · have holds : ∀ j u, xs[j]? = some u → w.cell? ((⟨g, 0, none⟩ : Addr).add j) = some u := hown.cells (g := g) rfl
        have hr2 := run_append_grow (P := P) w t o.type e i z ht hi hz ⟨g, 0, none⟩ n cap xs (by rw [hsize]; exact hown.1) holds ad m c news (by rw [hsize]; exact hl) hnews (by omega) (by simp only [maxLen] at h63; omega) (growslice_fits (by omega) (by rw [hby]; exact hbytes))
        have := hr.symm.trans hr2
        injection this with e1 e2
        exact ⟨_, _, e1, .inr rfl⟩
  obtain ⟨g', cap', rfl, hgg⟩ := key
  unfold Oper.wp execOp
  simp only [ho, resolve, invoke, builtin, Sem.run_bind, Sem.run_pure, Result.andThen_ok, List.map_toArray, List.map_cons, List.map_nil, hs, hx, hr]
  exact hK _ _ (h g' cap' w' h2 h3 hgg)
theorem grown_trans {a b c : World} {row : Option Nat} {g : Nat} (h : a.grownBy b (some g)) (h2 : b.grownBy c row) (hr : row = none ∨ row = some g ∨ ∃ k, row = some k ∧ a.heap.size ≤ k) : a.grownBy c (some g) := by
  refine ⟨h2.os.trans h.os, h2.tape.trans h.tape, h2.output.trans h.output, Nat.le_trans h.size h2.size, fun k hk hn => ?_⟩
  have h3 := h.size
  refine (h2.block k (by omega) ?_).trans (h.block k hk hn)
  rcases hr with rfl | rfl | ⟨q, rfl, hq⟩
  · simp
  · exact hn
  · intro e; injection e with e; omega
theorem grown_setCell {a b : World} {g j : Nat} {v : Value} (h : a.grownBy b (some g)) : a.grownBy (b.setCell ⟨g, j, none⟩ v) (some g) := by
  refine ⟨h.os, h.tape, h.output, ?_, fun k hk hn => ?_⟩
  · have e : (b.setCell ⟨g, j, none⟩ v).heap.size = b.heap.size := by simp [World.setCell]
    rw [e]; exact h.size
  · rw [heap_setCell_other b ⟨g, j, none⟩ k v (fun e => hn (by rw [e]))]
    exact h.block k hk hn
end Go.Proofs.Ytmcokphkaekdaab


namespace Go.Proofs.Ytmcokphkaekdaab
open Go Go.RowKit Go.Sort
attribute [local go_sem] setCell_drewN alloc_drewN

theorem cell_of {W : World} {g : Nat} {cs : Array Value} {t : TypeId} (hg : W.heap[g]? = some (.cells cs t (0, 0))) {j : Nat} {v : Value} (h : cs[j]? = some v) : W.cell? ⟨g, j, none⟩ = some v := by
  rw [cell_of_row _ _ _ _ _ _ hg]; exact h
theorem blk_lt {w : World} {b o : Nat} {v : Value} (h : w.cell? ⟨b, o, none⟩ = some v) : b < w.heap.size := by
  rcases Nat.lt_or_ge b w.heap.size with q | q
  · exact q
  · simp [World.cell?, Array.getElem?_eq_none q] at h
theorem grown_below {a b c : World} {g : Nat} (h : a.grownBy b (some g)) (hb : Below b.heap.size b c) : a.grownBy c (some g) :=
  ⟨hb.os.trans h.os, hb.tape.trans h.tape, hb.output.trans h.output, Nat.le_trans h.size hb.size, fun k hk hn => (hb.block k (Nat.lt_of_lt_of_le hk h.size)).trans (h.block k hk hn)⟩
theorem Kon.grown {a b : World} {g : Nat} (h : Kon a) (hg : a.grownBy b (some g)) (hne : g ≠ 1) : Kon b := by
  obtain ⟨t, fr, h⟩ := h
  exact ⟨t, fr, (hg.block 1 (Array.getElem?_eq_some_iff.1 h).1 (by intro e; injection e with e; exact hne e.symm)).trans h⟩
theorem Sta.grown {a b : World} {g : Nat} (h : Sta a) (hg : a.grownBy b (some g)) (hne : g ≠ 0) : Sta b := by
  obtain ⟨t, fr, h⟩ := h
  exact ⟨t, fr, (hg.block 0 (Array.getElem?_eq_some_iff.1 h).1 (by intro e; injection e with e; exact hne e.symm)).trans h⟩
theorem grown_setRow {a b : World} {g : Nat} (cs : Array Value) (h : a.grownBy b (some g)) : a.grownBy (b.setRow g cs) (some g) := by
  refine ⟨h.os, h.tape, h.output, ?_, fun k hk hn => ?_⟩
  · have e : (b.setRow g cs).heap.size = b.heap.size := by simp
    rw [e]; exact h.size
  · rw [setRow_other b g k cs (fun e => hn (by rw [e]))]
    exact h.block k hk hn
theorem elem8 : Try.prog.underlying 22 = some (.slice (Try.prog.elem 22)) := by kernel_rfl
theorem size8 (W : World) : (sizeOf (Try.prog.elem 22)).run Try.prog W = .ok 1 W := by kernel_rfl
theorem slice_first (ad : Addr) (m c n : Nat) (h : n ≤ c) (W : World) : (Instr.sliceAt 22 (.slice (some ad) m c) none (some (.int .i64 (n : Int))) (some (.int .i64 (n : Int)))).run Try.prog W = .ok (.slice (some (if n = 0 then ad else ad.add 0)) n n) W := by
  rw [run_sliceAt_slice _ _ _ _ _ _ elem8, run_slice_hm W 22 (some ad) m c elem8 .i64 .i64 _ _ (by omega) (Int.le_refl _) (by omega), size8]
  show Result.ok (sliced _ _ _ _ 1) W = _
  rw [Int.toNat_natCast, sliced, Nat.zero_mul]
  by_cases e : n = 0
  · rw [if_pos e, if_pos e]; rfl
  · rw [if_neg e, if_neg e]; rfl
theorem slice_rest (b0 o m c n : Nat) (h : n ≤ m) (hc : m ≤ c) : ∃ ao2 : Option Addr, (n < m → ao2 = some ⟨b0, o + n, none⟩) ∧ ∀ W, (Instr.sliceAt 22 (.slice (some ⟨b0, o, none⟩) m c) (some (.int .i64 (n : Int))) none none).run Try.prog W = .ok (.slice ao2 (m - n) (c - n)) W := by
  refine ⟨if c = n then some ⟨b0, o, none⟩ else some ⟨b0, o + n, none⟩, fun hn => if_neg (by omega), fun W => ?_⟩
  rw [run_sliceAt_slice _ _ _ _ _ _ elem8, run_slice_l W 22 (some ⟨b0, o, none⟩) m c elem8 .i64 _ (by omega) (by omega), size8]
  show Result.ok (sliced _ _ _ _ 1) W = _
  rw [Int.toNat_natCast, sliced, Nat.mul_one, Option.map_some, addr_add]
end Go.Proofs.Ytmcokphkaekdaab


namespace Go.Proofs.Ytmcokphkaekdaab
open Go Go.RowKit Go.Sort
attribute [local go_sem] setCell_drewN alloc_drewN

theorem fitS (bs : List Int) : (hcells (zr 8) (zr 64) 0).size = (hst bs).size := by
  rw [hcells_size _ _ _ (zr_len 8) (zr_len 64), hst, hcells_size _ _ _ (hwords_len bs) (hpart_len bs)]
theorem fitSS (a b : List Int) : (hst a).size = (hst b).size := (fitS a).symm.trans (fitS b)
theorem sumW_eq (bs : List Int) : hwords (bs ++ padL bs.length) = sumW bs := rfl
end Go.Proofs.Ytmcokphkaekdaab


namespace Go.Proofs.Ytmcokphkaekdaab
open Go Go.RowKit Go.Sort

/-! A hash that lies at the head of a greater row. -/
def hcx (R : List Value) (ws ps : List Int) (sz : Int) : Array Value := (ws.map (Value.int .u32) ++ (ps.map (Value.int .u8) ++ (Value.int .u64 sz :: R))).toArray
def hsx (R : List Value) (bs : List Int) : Array Value := hcx R (hwords bs) (hpart bs) (bs.length : Int)
theorem hsx_nil (bs : List Int) : hsx [] bs = hst bs := rfl
theorem hsx_eq (R : List Value) (bs : List Int) : hsx R bs = hst bs ++ R.toArray := by
  apply Array.ext'
  simp [hsx, hcx, hst, hcells]
theorem hsx_less (R : List Value) (a c : List Int) (h : a.length % 64 + c.length < 64) : hsx R (a ++ c) = hcx R (hwords a) (prt (wat (a ++ c) (a.length / 64)) (a.length % 64 + c.length)) ((a.length : Int) + c.length) := by
  have e1 : (a ++ c).length / 64 = a.length / 64 := by rw [List.length_append]; omega
  have e2 : (a ++ c).length % 64 = a.length % 64 + c.length := by rw [List.length_append]; omega
  unfold hsx hwords hpart
  rw [e1, e2, fol_append _ _ _ _ (by omega), List.length_append]
  rfl
theorem hsx_full (R : List Value) (a c : List Int) (h : a.length % 64 + c.length = 64) : hsx R (a ++ c) = hcx R (blk (hwords a) (prt (wat (a ++ c) (a.length / 64)) 64)) (zr 64) ((a.length : Int) + c.length) := by
  have e1 : (a ++ c).length / 64 = a.length / 64 + 1 := by rw [List.length_append]; omega
  have e2 : (a ++ c).length % 64 = 0 := by rw [List.length_append]; omega
  unfold hsx hwords hpart
  rw [e1, e2, fol, fol_append _ _ _ _ (by omega), List.length_append, prt_zero]
  rfl
theorem hcx_size (R : List Value) (ws ps : List Int) (sz : Int) (h1 : ws.length = 8) (h2 : ps.length = 64) : (hcx R ws ps sz).size = 73 + R.length := by simp [hcx, h1, h2]; omega
theorem hcx_words (R : List Value) (ws ps : List Int) (sz : Int) (h1 : ws.length = 8) : (hcx R ws ps sz).extract 0 (0 + 8) = irow .u32 ws := by
  apply Array.ext'
  simp [hcx, irow, h1]
theorem hcx_part (R : List Value) (ws ps : List Int) (sz : Int) (h1 : ws.length = 8) (h2 : ps.length = 64) : (hcx R ws ps sz).extract 8 (8 + 64) = irow .u8 ps := by
  apply Array.ext'
  simp [hcx, irow, h1, h2]
theorem hcx_eq (R : List Value) (ws ps : List Int) (sz : Int) : hcx R ws ps sz = hcells ws ps sz ++ R.toArray := by
  apply Array.ext'
  simp [hcx, hcells]
theorem hcx_whole (R : List Value) (ws ps : List Int) (sz : Int) (h1 : ws.length = 8) (h2 : ps.length = 64) : (hcx R ws ps sz).extract 0 (0 + (hcells ws ps sz).size) = hcells ws ps sz := by
  have h := hcells_size ws ps sz h1 h2
  apply Array.ext'
  rw [h, Array.toList_extract, hcx_eq, Array.toList_append, List.extract_eq_take_drop, List.drop_zero, Nat.zero_add, Nat.sub_zero, List.take_left' (by rw [Array.length_toList, h])]
theorem hcx_at (R : List Value) (ws ps : List Int) (sz : Int) (h1 : ws.length = 8) (h2 : ps.length = 64) : (hcx R ws ps sz)[72]? = some (.int .u64 sz) := by
  rw [hcx_eq, Array.getElem?_append_left (by rw [hcells_size _ _ _ h1 h2]; decide)]
  exact hcells_at ws ps sz h1 h2
theorem hcx_setsz (R : List Value) (ws ps : List Int) (sz z : Int) (h1 : ws.length = 8) (h2 : ps.length = 64) : (hcx R ws ps sz).setIfInBounds 72 (.int .u64 z) = hcx R ws ps z := by
  apply Array.ext'
  simp [hcx, h1, h2]
theorem hcx_copy (R : List Value) (ws ps c : List Int) (sz : Int) (o : Nat) (h1 : ws.length = 8) (h2 : ps.length = 64) (hc : o + c.length ≤ 64) : ((hcx R ws ps sz).toList.take (8 + o) ++ c.map (Value.int .u8) ++ (hcx R ws ps sz).toList.drop (8 + o + (c.map (Value.int .u8)).length)).toArray = hcx R ws (ps.take o ++ c ++ ps.drop (o + c.length)) sz := by
  apply Array.ext'
  have e1 : 8 + o - ws.length = o := by omega
  have e2 : 8 + o + c.length - ws.length = o + c.length := by omega
  simp only [hcx, List.length_map, List.take_append, List.drop_append, h1, h2, List.map_append, List.map_take, List.map_drop]
  rw [List.take_of_length_le (show (ws.map (Value.int .u32)).length ≤ 8 + o by simp; omega), List.drop_eq_nil_of_le (show (ws.map (Value.int .u32)).length ≤ 8 + o + c.length by simp; omega), show 8 + o - 8 = o by omega, show 8 + o + c.length - 8 = o + c.length by omega, show o - 64 = 0 by omega, show o + c.length - 64 = 0 by omega]
  simp [List.append_assoc]
theorem hcx_setwords (R : List Value) (ws vs ps : List Int) (sz : Int) (h1 : ws.length = 8) (h2 : ps.length = 64) (h3 : vs.length = 8) : ovw (hcx R ws ps sz) 0 (irow .u32 vs).toList = hcx R vs ps sz := by
  apply Array.ext'
  rw [ovw_list _ _ _ (by rw [hcx_size _ _ _ _ h1 h2]; simp [irow, h3]; omega)]
  simp [hcx, irow, h1, h3]
theorem hcx_setpart (R : List Value) (ws ps qs : List Int) (sz : Int) (h1 : ws.length = 8) (h2 : ps.length = 64) (h3 : qs.length = 64) : ovw (hcx R ws ps sz) 8 (irow .u8 qs).toList = hcx R ws qs sz := by
  apply Array.ext'
  rw [ovw_list _ _ _ (by rw [hcx_size _ _ _ _ h1 h2]; simp [irow, h3]; omega)]
  simp only [hcx, irow, h1, h3, List.length_map, List.take_append, List.take_of_length_le (show (ws.map (Value.int .u32)).length ≤ 8 by simp; omega)]
  rw [show 8 - 8 = 0 from rfl, List.take_zero, ← List.append_assoc (ws.map (Value.int .u32)) (ps.map (Value.int .u8)), List.drop_left' (by simp; omega)]
  simp
end Go.Proofs.Ytmcokphkaekdaab

namespace Go.Proofs.Ytmcokphkaekdaab
open Go Go.RowKit Go.Sort
attribute [local go_sem] setCell_drewN alloc_drewN

theorem copy_partR {W : World} {R : List Value} {t : TypeId} {g r b0 o n : Nat} {ws ps c : List Int} {sz : Int} (hg : W.heap[g]? = some (.cells (hcx R ws ps sz) t (0, 0))) (h1 : ws.length = 8) (h2 : ps.length = 64) (hc : ∀ j, j < c.length → W.cell? ⟨b0, o + j, none⟩ = some (.int .u8 (c.getD j 0))) (hn : c.length = n) (hr : r + n ≤ 64) :
    (Builtin.copy_ #[22, 22] 3 #[.slice (some ⟨g, 8 + r, none⟩) (64 - r) (64 - r), .slice (some ⟨b0, o, none⟩) n n]).run Try.prog W = .ok (goInt n) (W.setRow g (hcx R ws (ps.take r ++ c ++ ps.drop (r + n)) sz)) := by
  have hsrc : ∀ j u, (c.map (Value.int .u8))[j]? = some u → W.cell? ((⟨b0, o, none⟩ : Addr).add j) = some u := by
    intro j u hu
    have hj : j < c.length := by have := (List.getElem?_eq_some_iff.1 hu).1; simpa using this
    have : u = .int .u8 (c.getD j 0) := by
      simp only [List.getElem?_map, List.getElem?_eq_getElem hj, Option.map_some, Option.some.injEq] at hu
      rw [← hu, List.getD_eq_getElem?_getD, List.getElem?_eq_getElem hj]; rfl
    rw [this, addr_add]
    exact hc j hj
  have hrun := run_copy_row (P := Try.prog) W 22 22 3 5 g (8 + r) (64 - r) (64 - r) ⟨b0, o, none⟩ n n (hcx R ws ps sz) t (c.map (Value.int .u8)) Try.underlying22 (by kernel_rfl) hg (by rw [List.length_map, hn]; exact (Nat.min_eq_left (by omega)).symm) hsrc (by rw [hcx_size R _ _ _ h1 h2, List.length_map]; omega) (ints_one .u8 c)
  rw [hcx_copy R ws ps c sz r h1 h2 (by omega), List.length_map, hn] at hrun
  exact hrun
end Go.Proofs.Ytmcokphkaekdaab


namespace Go.Proofs.Ytmcokphkaekdaab
open Go Go.RowKit Go.Sort
attribute [local go_sem] setCell_drewN alloc_drewN

end Go.Proofs.Ytmcokphkaekdaab

namespace Go.Proofs.Ytmcokphkaekdaab
open Go Go.RowKit Go.Sort
attribute [local go_sem] setCell_drewN alloc_drewN

/-- Bytes, fewer than 2^47 + 2^46. -/
def BysM (W : World) (v : Value) (bs : List Int) : Prop := Bys W v bs ∧ bs.length ≤ 211106232532992 ∧ (∀ a l c, v = .slice a l c → a = none → c = 0)
theorem BysM.keep {W W' : World} {v : Value} {bs : List Int} (h : BysM W v bs) (hb : Below W.heap.size W W') : BysM W' v bs := ⟨h.1.keep hb, h.2⟩
theorem BysN.toM {W : World} {v : Value} {bs : List Int} (h : BysN W v bs) : BysM W v bs := ⟨h.1, by have := h.2.1; omega, h.2.2⟩
theorem own_nil {W : World} {b n : Nat} {e : TypeId} {v : Value} {xs : List Value} (h : W.ownsRow b e 1 v n xs) : ∀ a l c, v = .slice a l c → a = none → c = 0 := by
  rintro a l c rfl rfl
  obtain ⟨_, ⟨hv, _⟩ | ⟨g, cap, cur, hv, _⟩⟩ := h
  · injection hv
  · cases hv
theorem BysM.of_own {W : World} {b n : Nat} {v : Value} {l : List Int} (h : W.ownsRow b 5 1 v n (l.map (Value.int .u8))) (hl : l.length ≤ 211106232532992) (hz : ∀ z ∈ l, 0 ≤ z ∧ z < 256) : BysM W v l := ⟨Bys.of_own h (by omega) hz, hl, own_nil h⟩
end Go.Proofs.Ytmcokphkaekdaab


namespace Go.Proofs.Ytmcokphkaekdaab
open Go Go.RowKit Go.Sort
attribute [local go_sem] setCell_drewN alloc_drewN

/-- An append to a row of one's own, whatever the shape of what is appended. -/
theorem wpList_append_own_any {P : Program} (w : World) {ops : Array Oper} {rest : List Oper} {o : Oper} {a : Act} {Q : Exit → Act → World → Prop} (hgd : o.guard = none) (s x : Operand) (t : TypeId)
    (ho : o.op = .call { callee := .builtin .append, args := #[s, x], argTypes := #[t, t] })
    (base : Nat) (e : TypeId) (i : TypeInfo) (z : Value) (ht : P.underlying t = some (.slice e)) (hi : P.info? e = some i) (hz : i.zero = some z)
    (hsize : i.size = 1) (hby : i.bytes = 1) (hzs : z.cells.size = 1)
    (v : Value) (n : Nat) (xs : List Value) (hs : a.eval s = v) (hown : w.ownsRow base e 1 v n xs)
    (ao : Option Addr) (m c : Nat) (news : List Value) (hx : a.eval x = .slice ao m c) (hl : news.length = m * 1) (hnone : ao = none → m = 0 ∧ c = 0) (hnews : ∀ ad, ao = some ad → ∀ j u, news[j]? = some u → w.cell? (ad.add j) = some u) (h1 : ∀ u ∈ news, u.oneCell' = true)
    (h63 : n + m ≤ maxLen) (hbytes : (n + m) * 1 ≤ 140737488355328) (hbase : base ≤ w.heap.size)
    (h : ∀ v' w', w'.ownsRow base e 1 v' (n + m) (xs ++ news) → w.grownBy w' v.ownBlock → wpList P ops Q rest (a.put o.dst v') w') : wpList P ops Q (o :: rest) a w := by
  cases ao with
  | some ad => exact wpList_append_own w hgd s x t ho base e i z 1 1 ht hi hz hsize hby hzs (by decide) v n xs hs hown ad m c news hx hl (hnews ad rfl) h1 h63 hbytes hbase (fun v' w' h2 h3 _ => h v' w' h2 h3)
  | none =>
    obtain ⟨rfl, rfl⟩ := hnone rfl
    have hn0 : news = [] := List.eq_nil_of_length_eq_zero (by simpa using hl)
    subst hn0
    refine wpList_plain hgd fun K hK' => ?_
    have hrun := run_append_owned_none (P := P) w base t o.type e i 1 ht hi _ n xs hown
    unfold Oper.wp
    simp [execOp, ho, resolve, invoke, builtin, hs, hx, hrun, Result.andThen]
    exact hK' _ _ (by simpa using h v w (by simpa using hown) (World.grownBy.refl _ _))
theorem own_at {W : World} {b n : Nat} {v : Value} {l : List Int} (h : W.ownsRow b 5 1 v n (l.map (Value.int .u8))) {j : Nat} (hj : j < n) : ∃ g cap, v = .slice (some ⟨g, 0, none⟩) n cap ∧ b ≤ g ∧ g < W.heap.size ∧ W.cell? ⟨g, j, none⟩ = some (.int .u8 (l.getD j 0)) ∧ W.frozen? ⟨g, j, none⟩ = false ∧ ∀ z, (W.setCell ⟨g, j, none⟩ (.int .u8 z)).ownsRow b 5 1 v n ((l.set j z).map (Value.int .u8)) := by
  obtain ⟨h1, ⟨rfl, rfl⟩ | ⟨g, cap, cur, rfl, hb, hg, hn, hm, hs, ht⟩⟩ := h
  · omega
  have hln : l.length = n := by simpa using h1
  simp only [Nat.mul_one] at ht hs
  refine ⟨g, cap, rfl, hb, lt_of_row hg, ?_, row_frozen hg j, fun z => ⟨by simpa using h1, .inr ⟨g, cap, _, rfl, hb, heap_setCell_same W g j cur _ _ hg, hn, hm, by simpa using hs, ?_⟩⟩⟩
  · rw [cell_of_row _ _ _ _ _ _ hg]
    have h2 := congrArg (fun q => q[j]?) ht
    rw [List.getElem?_take_of_lt hj, List.getElem?_map, List.getElem?_eq_getElem (show j < l.length by omega)] at h2
    rw [← Array.getElem?_toList, h2, List.getD_eq_getElem?_getD, List.getElem?_eq_getElem (show j < l.length by omega)]
    rfl
  · rw [Array.toList_setIfInBounds, Nat.mul_one, List.take_set, ht, List.map_set]
theorem own_other {W : World} {b n g j : Nat} {v u : Value} {xs : List Value} (h : W.ownsRow b 5 1 v n xs) (hg : g < b) : (W.setCell ⟨g, j, none⟩ u).ownsRow b 5 1 v n xs := by
  obtain ⟨h1, h2 | ⟨g', cap, cur, rfl, hb, hg', h3⟩⟩ := h
  · exact ⟨h1, .inl h2⟩
  · exact ⟨h1, .inr ⟨g', cap, cur, rfl, hb, heap_other hg' (by omega), h3⟩⟩
theorem own_empty (W : World) : (W.alloc (.cells #[] 5)).ownsRow W.heap.size 5 1 (.slice (some ⟨W.heap.size, 0, none⟩) 0 0) 0 [] := ⟨rfl, .inr ⟨W.heap.size, 0, #[], rfl, Nat.le_refl _, hp1_0 W _, Nat.le_refl _, by decide, rfl, rfl⟩⟩
theorem Bys.of_prefix {W : World} {g : Nat} {l m : List Int} {t : TypeId} (hg : W.heap[g]? = some (.cells (irow .u8 (l ++ m)) t (0, 0))) (hl : l.length ≤ 9223372036854775807) (hz : ∀ z ∈ l, 0 ≤ z ∧ z < 256) (cap : Nat) : Bys W (.slice (some ⟨g, 0, none⟩) l.length cap) l := by
  refine ⟨_, cap, rfl, hl, fun j hj => ⟨g, 0, rfl, lt_of_row hg, ?_⟩, hz⟩
  rw [Nat.zero_add, irow_cell hg (by rw [List.length_append]; omega), getD_append_lt _ _ _ hj]
/-- The first k of a, then what is left of c. -/
def mix (a c : List Int) (k : Nat) : List Int := a.take k ++ c.drop k
theorem mix_zero (a c : List Int) : mix a c 0 = c := by simp [mix]
theorem mix_all (a c : List Int) (h : a.length = c.length) : mix a c c.length = a := by
  unfold mix
  rw [← h, List.take_length, h, List.drop_length, List.append_nil]
theorem mix_length (a c : List Int) (k : Nat) (h : a.length = c.length) (hk : k ≤ c.length) : (mix a c k).length = c.length := by simp [mix]; omega
theorem mix_get (a c : List Int) (k : Nat) (h : a.length = c.length) (hk : k < c.length) : (mix a c k).getD k 0 = c.getD k 0 := by
  rw [List.getD_eq_getElem?_getD, List.getD_eq_getElem?_getD, mix, List.getElem?_append_right (by rw [List.length_take]; omega), List.getElem?_drop, List.length_take, show k + (k - min k a.length) = k by omega]
theorem mix_set (a c : List Int) (k : Nat) (h : a.length = c.length) (hk : k < c.length) : (mix a c k).set k (a.getD k 0) = mix a c (k + 1) := by
  apply List.ext_getElem?
  intro j
  have h1 : (a.take k).length = k := by simp; omega
  have h2 : (a.take (k + 1)).length = k + 1 := by simp; omega
  unfold mix
  rw [List.getElem?_set]
  by_cases e : k = j
  · subst e
    rw [if_pos rfl, if_pos (by simp; omega), List.getElem?_append_left (by omega), List.getElem?_take_of_lt (by omega)]
    rw [List.getD_eq_getElem?_getD, List.getElem?_eq_getElem (by omega)]
    rfl
  · rw [if_neg e]
    by_cases hj : j < k
    · rw [List.getElem?_append_left (by omega), List.getElem?_append_left (by omega), List.getElem?_take_of_lt hj, List.getElem?_take_of_lt (by omega)]
    · rw [List.getElem?_append_right (by omega), List.getElem?_append_right (by omega), List.getElem?_drop, List.getElem?_drop, h1, h2]
      congr 1
      omega
def xl (bs : List Int) (x : Int) : List Int := bs.map fun z => bits .xor .u8 z x
theorem xl_len (bs : List Int) (x : Int) : (xl bs x).length = bs.length := by simp [xl]
theorem bits8_bd (a b : Int) : 0 ≤ bits .xor .u8 a b ∧ bits .xor .u8 a b < 256 := by
  unfold bits
  simp only [IntKind.wrap, IntKind.bits, IntKind.signed]
  constructor
  · exact Int.emod_nonneg _ (by decide)
  · exact Int.emod_lt_of_pos _ (by decide)
theorem xl_bd (bs : List Int) (x : Int) : ∀ z ∈ xl bs x, 0 ≤ z ∧ z < 256 := by
  intro z hz
  obtain ⟨y, _, rfl⟩ := List.mem_map.1 hz
  exact bits8_bd _ _
theorem xl_get (bs : List Int) (x : Int) (k : Nat) (hk : k < bs.length) : (xl bs x).getD k 0 = bits .xor .u8 (bs.getD k 0) x := by
  rw [List.getD_eq_getElem?_getD, List.getD_eq_getElem?_getD, xl, List.getElem?_map, List.getElem?_eq_getElem hk]
  rfl
end Go.Proofs.Ytmcokphkaekdaab


namespace Go.Proofs.Ytmcokphkaekdaab
open Go Go.RowKit Go.Sort

/-! The HMAC, on lists of numbers. -/
theorem sumL_bd (bs : List Int) : ∀ z ∈ sumL bs, 0 ≤ z ∧ z < 256 := byts_bd _
theorem zr_bd (k : Nat) : ∀ z ∈ zr k, 0 ≤ z ∧ z < 256 := by
  intro z hz
  rw [List.eq_of_mem_replicate hz]
  decide
/-- A key, no longer than a block. -/
def ksh (key : List Int) : List Int := if 64 < key.length then sumL key else key
def kb64 (key : List Int) : List Int := ksh key ++ zr (64 - (ksh key).length)
theorem ksh_len (key : List Int) : (ksh key).length ≤ 64 := by
  unfold ksh
  split
  · rw [sumL_len]; decide
  · omega
theorem ksh_bd {key : List Int} (h : ∀ z ∈ key, 0 ≤ z ∧ z < 256) : ∀ z ∈ ksh key, 0 ≤ z ∧ z < 256 := by
  unfold ksh
  split
  · exact sumL_bd _
  · exact h
theorem kb64_len (key : List Int) : (kb64 key).length = 64 := by
  have := ksh_len key
  simp only [kb64, List.length_append, zr_len]; omega
theorem kb64_bd {key : List Int} (h : ∀ z ∈ key, 0 ≤ z ∧ z < 256) : ∀ z ∈ kb64 key, 0 ≤ z ∧ z < 256 := both_bd (ksh_bd h) (zr_bd _)
theorem kb64_get (key : List Int) (i : Nat) : (kb64 key).getD i 0 = (ksh key).getD i 0 := by
  rw [List.getD_eq_getElem?_getD, List.getD_eq_getElem?_getD, kb64]
  by_cases h : i < (ksh key).length
  · rw [List.getElem?_append_left h]
  · rw [List.getElem?_append_right (by omega), List.getElem?_eq_none (show (ksh key).length ≤ i by omega)]
    simp only [zr, List.getElem?_replicate]
    split <;> rfl
def kin (key : List Int) : List Int := xl (kb64 key) 54
def kout (key : List Int) : List Int := xl (kb64 key) 92
theorem kin_len (key : List Int) : (kin key).length = 64 := (xl_len _ _).trans (kb64_len key)
theorem kout_len (key : List Int) : (kout key).length = 64 := (xl_len _ _).trans (kb64_len key)
theorem kin_bd (key : List Int) : ∀ z ∈ kin key, 0 ≤ z ∧ z < 256 := xl_bd _ _
theorem kout_bd (key : List Int) : ∀ z ∈ kout key, 0 ≤ z ∧ z < 256 := xl_bd _ _
/-- The HMAC. -/
def hm (key bs : List Int) : List Int := sumL (kout key ++ sumL (kin key ++ bs))
theorem hm_len (key bs : List Int) : (hm key bs).length = 32 := sumL_len _
theorem hm_bd (key bs : List Int) : ∀ z ∈ hm key bs, 0 ≤ z ∧ z < 256 := sumL_bd _
theorem kb64_sh (key : List Int) : kb64 (ksh key) = kb64 key := by
  have h := ksh_len key
  have e : ksh (ksh key) = ksh key := by rw [ksh, if_neg (by omega)]
  rw [kb64, kb64, e]
theorem kb64_zr (key : List Int) (n : Nat) (h : key.length + n ≤ 64) : kb64 (key ++ zr n) = kb64 key := by
  have e1 : ksh (key ++ zr n) = key ++ zr n := by rw [ksh, if_neg (by rw [List.length_append, zr_len]; omega)]
  have e2 : ksh key = key := by rw [ksh, if_neg (by omega)]
  rw [kb64, kb64, e1, e2, List.append_assoc, List.length_append, zr_len]
  congr 1
  simp only [zr]
  rw [List.replicate_append_replicate]
  congr 1
  omega
theorem hm_of (k l bs : List Int) (h : kb64 k = kb64 l) : hm k bs = hm l bs := by simp only [hm, kin, kout, h]
/-- The cells of a Mac behind its hash. -/
def mrest (key : List Int) : List Value := (hst (kin key)).toList ++ (hst (kout key)).toList
/-- The cells of a Mac. -/
def mst (key bs : List Int) : Array Value := hsx (mrest key) (kin key ++ bs)
theorem hst_size (bs : List Int) : (hst bs).size = 73 := hcells_size _ _ _ (hwords_len bs) (hpart_len bs)
theorem mrest_len (key : List Int) : (mrest key).length = 146 := by
  simp only [mrest, List.length_append, Array.length_toList, hst_size]
theorem mst_size (key bs : List Int) : (mst key bs).size = 219 := by
  rw [mst, hsx, hcx_size _ _ _ _ (hwords_len _) (hpart_len _), mrest_len]
theorem mst_list (key bs : List Int) : (mst key bs).toList = (hst (kin key ++ bs)).toList ++ ((hst (kin key)).toList ++ (hst (kout key)).toList) := by
  rw [mst, hsx_eq, Array.toList_append]; rfl
theorem mst_inner (key bs : List Int) : (mst key bs).extract 73 (73 + (hst (kin key)).size) = hst (kin key) := by
  apply Array.ext'
  have h1 : (hst (kin key ++ bs)).toList.length = 73 := by rw [Array.length_toList, hst_size]
  have h2 : (hst (kin key)).toList.length = 73 := by rw [Array.length_toList, hst_size]
  rw [hst_size, Array.toList_extract, mst_list]
  simp only [List.extract_eq_take_drop]
  rw [List.drop_left' h1, List.take_left' h2]
theorem mst_outer (key bs : List Int) : (mst key bs).extract 146 (146 + (hst (kout key)).size) = hst (kout key) := by
  apply Array.ext'
  have h1 : (hst (kin key ++ bs)).toList.length = 73 := by rw [Array.length_toList, hst_size]
  have h2 : (hst (kin key)).toList.length = 73 := by rw [Array.length_toList, hst_size]
  have h3 : (hst (kout key)).toList.length = 73 := by rw [Array.length_toList, hst_size]
  rw [hst_size, Array.toList_extract, mst_list]
  simp only [List.extract_eq_take_drop]
  rw [← List.append_assoc, List.drop_left' (by rw [List.length_append, h1, h2]), List.take_of_length_le (by omega)]
/-- The pieces of Expand. -/
def tp (key info : List Int) : Nat → List Int
  | 0 => []
  | i + 1 => hm key (tp key info i ++ (info ++ [((i + 1 : Nat) : Int)]))
def tall (key info : List Int) : Nat → List Int
  | 0 => []
  | i + 1 => tall key info i ++ tp key info (i + 1)
theorem tp_len (key info : List Int) (i : Nat) : (tp key info (i + 1)).length = 32 := hm_len _ _
theorem tp_le (key info : List Int) (i : Nat) : (tp key info i).length ≤ 32 := by
  cases i with
  | zero => exact Nat.zero_le _
  | succ i => rw [tp_len]; exact Nat.le_refl _
theorem tp_bd (key info : List Int) (i : Nat) : ∀ z ∈ tp key info i, 0 ≤ z ∧ z < 256 := by
  cases i with
  | zero => intro z h; cases h
  | succ i => exact hm_bd _ _
theorem tall_len (key info : List Int) : ∀ i, (tall key info i).length = 32 * i
  | 0 => rfl
  | i + 1 => by rw [tall, List.length_append, tall_len key info i, tp_len]; omega
theorem tall_bd (key info : List Int) : ∀ i, ∀ z ∈ tall key info i, 0 ≤ z ∧ z < 256
  | 0 => by intro z h; cases h
  | i + 1 => both_bd (tall_bd key info i) (tp_bd key info (i + 1))
/-- What Expand makes. -/
def xpd (key info : List Int) (n : Nat) : List Int := (tall key info ((n + 31) / 32)).take n
theorem xpd_len (key info : List Int) (n : Nat) : (xpd key info n).length = n := by
  rw [xpd, List.length_take, tall_len]; omega
theorem xpd_bd (key info : List Int) (n : Nat) : ∀ z ∈ xpd key info n, 0 ≤ z ∧ z < 256 := fun z h => tall_bd key info _ z (List.mem_of_mem_take h)
theorem tall_take (key info : List Int) (i : Nat) : ∀ k, (tall key info (i + k)).take (32 * i) = tall key info i
  | 0 => by rw [Nat.add_zero, List.take_of_length_le (by rw [tall_len]; omega)]
  | k + 1 => by
    rw [← Nat.add_assoc, tall, List.take_append_of_le_length (by rw [tall_len]; omega)]
    exact tall_take key info i k
theorem xpd_take (key info : List Int) (n m : Nat) (h : n ≤ m) : (xpd key info m).take n = xpd key info n := by
  have e : (m + 31) / 32 = (n + 31) / 32 + ((m + 31) / 32 - (n + 31) / 32) := by omega
  have h1 := tall_take key info ((n + 31) / 32) ((m + 31) / 32 - (n + 31) / 32)
  rw [← e] at h1
  rw [xpd, List.take_take, Nat.min_eq_left h, xpd, ← h1, List.take_take, Nat.min_eq_left (by omega)]
theorem xpd_at (key info : List Int) (m n : Nat) (h : 32 * m + 32 ≤ n) : ((xpd key info n).drop (32 * m)).take 32 = tp key info (m + 1) := by
  have h1 := xpd_take key info (32 * m + 32) n h
  have h2 : xpd key info (32 * m + 32) = tall key info (m + 1) := by
    rw [xpd, show (32 * m + 32 + 31) / 32 = m + 1 by omega, List.take_of_length_le (by rw [tall_len]; omega)]
  rw [h2, tall] at h1
  have h3 := congrArg (List.drop (32 * m)) h1
  rw [List.drop_left' (tall_len _ _ _), List.drop_take, show 32 * m + 32 - 32 * m = 32 by omega] at h3
  exact h3
end Go.Proofs.Ytmcokphkaekdaab

namespace Go.Proofs.Ytmcokphkaekdaab
open Go Go.RowKit Go.Sort
attribute [local go_sem] setCell_drewN alloc_drewN

theorem setRow_self {W : World} {g : Nat} {cs : Array Value} {t : TypeId} {fr : Nat × Nat} (hg : W.heap[g]? = some (.cells cs t fr)) : W.setRow g cs = W := by
  have hlt := lt_of_row hg
  have e : (W.setRow g cs).heap = W.heap := by
    apply Array.ext_getElem?
    intro i
    by_cases h : i = g
    · subst h; rw [setRow_heap W i _ cs _ _ hg, hg]
    · exact setRow_other W g i cs h
  show { W with heap := (W.setRow g cs).heap } = W
  rw [e]
theorem copy_bys {W : World} {g o dLen dCap : Nat} {v : Value} {l c : List Int} {t : TypeId} (hg : W.heap[g]? = some (.cells (irow .u8 l) t (0, 0))) (hB : Bys W v c) (hd : c.length ≤ dLen) (hf : o + c.length ≤ l.length) :
    (Builtin.copy_ #[22, 22] 3 #[.slice (some ⟨g, o, none⟩) dLen dCap, v]).run Try.prog W = .ok (goInt c.length) (W.setRow g (irow .u8 (l.take o ++ c ++ l.drop (o + c.length)))) := by
  obtain ⟨ao, cap, rfl, _, hc, _⟩ := hB
  rcases Nat.eq_zero_or_pos c.length with h0 | h0
  · have hc0 : c = [] := List.eq_nil_of_length_eq_zero h0
    subst hc0
    rw [run_copy_none W 22 22 3 5 _ _ _ _ _ _ Try.underlying22 (by kernel_rfl) (by simp)]
    rw [List.append_nil, List.length_nil, Nat.add_zero, List.take_append_drop, setRow_self hg]
    rfl
  · obtain ⟨b, off, rfl, _⟩ := hc 0 h0
    refine copy_irow hg (fun j hj => ?_) (Nat.min_eq_left hd).symm hf
    obtain ⟨b', off', e, _, h⟩ := hc j hj
    cases e
    exact h
theorem zr_take (a b : Nat) (h : a ≤ b) : (zr b).take a = zr a := by simp [zr, List.take_replicate, Nat.min_eq_left h]
theorem zr_drop (a b : Nat) : (zr b).drop a = zr (b - a) := by simp [zr]
end Go.Proofs.Ytmcokphkaekdaab

namespace Go.Proofs.Ytmcokphkaekdaab
open Go Go.RowKit Go.Sort
attribute [local go_sem] setCell_drewN alloc_drewN

/-- A call that asks for both package variables. -/
def Gives2 (f : FuncId) (args : Array Value) (v : Value) : Prop := ∀ W, Sta W → Kon W → Calls Try.prog f args W fun e w' => e = .returned v ∧ Below W.heap.size W w'
theorem Gives2.re {f : FuncId} {args : Array Value} {v : Value} (h : Gives2 f args v) {w : World} {d : Nat} {os : Array Obj} (hs : Sta w) (hk : Kon w) : Calls Try.prog f args (grow (redrawn w d) os) fun e w'' => e = .returned v ∧ ∃ p : Regrown, w'' = grow (redrawn w p.d) p.os := Calls.regrown_of (h _ (hs.below (below_regrown w d os)) (hk.below (below_regrown w d os)))
end Go.Proofs.Ytmcokphkaekdaab

namespace Go.Proofs.Ytmcokphkaekdaab
open Go Go.RowKit Go.Sort
attribute [local go_sem] setCell_drewN alloc_drewN

/-- A Mac's cells, whatever its hash. -/
def mcl (h : Array Value) (key : List Int) : Array Value := (h.toList ++ mrest key).toArray
theorem mcl_st (key bs : List Int) : mcl (hst (kin key ++ bs)) key = mst key bs := by
  apply Array.ext'
  rw [mst_list]; rfl
theorem mcl_size (h : Array Value) (key : List Int) (hh : h.size = 73) : (mcl h key).size = 219 := by
  simp only [mcl, List.size_toArray, List.length_append, Array.length_toList, mrest_len, hh]
theorem mcl_inner (h : Array Value) (key : List Int) (hh : h.size = 73) : (mcl h key).extract 73 (73 + (hst (kin key)).size) = hst (kin key) := by
  apply Array.ext'
  have h1 : h.toList.length = 73 := by rw [Array.length_toList, hh]
  have h2 : (hst (kin key)).toList.length = 73 := by rw [Array.length_toList, hst_size]
  rw [hst_size, Array.toList_extract, mcl, mrest]
  simp only [List.extract_eq_take_drop]
  rw [List.drop_left' h1, List.take_left' h2]
theorem mcl_set (h h' : Array Value) (key : List Int) (hh : h.size = 73) (hh' : h'.size = 73) : ovw (mcl h key) 0 h'.toList = mcl h' key := by
  apply Array.ext'
  rw [ovw_list _ _ _ (by rw [mcl_size _ _ hh, Array.length_toList, hh']; decide), Array.length_toList, hh', mcl, mcl]
  rw [List.take_zero, List.nil_append, Nat.zero_add, List.drop_left' (by rw [Array.length_toList, hh])]
theorem hst_one (bs : List Int) : (hst bs).all (·.oneCell') = true := hcells_one _ _ _
end Go.Proofs.Ytmcokphkaekdaab

namespace Go.Proofs.Ytmcokphkaekdaab
open Go Go.RowKit Go.Sort
attribute [local go_sem] setCell_drewN alloc_drewN

theorem foldl_ovw (off : Nat) : ∀ (vs : List Value) (k : Nat) (cs : Array Value), (vs.zipIdx k).foldl (fun cs (x : Value × Nat) => cs.setIfInBounds (off + x.2) x.1) cs = ovw cs (off + k) vs
  | [], _, _ => rfl
  | v :: r, k, cs => by
    rw [List.zipIdx_cons, List.foldl_cons, foldl_ovw off r (k + 1), ovw]
    rfl
theorem fill_agg (place : Nat → Option (Nat × Nat)) (cs a : Array Value) (i off : Nat) (rest : List (Nat × Value)) (hp : place i = some (off, a.size)) (hf : off + a.size ≤ cs.size) : Instr.fill place cs ((i, .agg a) :: rest) = Instr.fill place (ovw cs off a.toList) rest := by
  rw [Instr.fill, hp]
  have h1 : (Value.agg a).cells = a := rfl
  simp only [h1]
  rw [if_neg (by simp; omega)]
  congr 1
  have h2 := foldl_ovw off a.toList 0 cs
  rw [Nat.add_zero] at h2
  rw [← h2, ← Array.foldl_toList, Array.toList_zipIdx]
theorem ovw_size : ∀ (vs : List Value) (cs : Array Value) (o : Nat), (ovw cs o vs).size = cs.size
  | [], _, _ => rfl
  | v :: r, cs, o => by rw [ovw, ovw_size r, Array.size_setIfInBounds]
theorem z73 : (hcells (zr 8) (zr 64) 0).size = 73 := rfl
end Go.Proofs.Ytmcokphkaekdaab

namespace Go.Proofs.Ytmcokphkaekdaab
open Go Go.RowKit Go.Sort
attribute [local go_sem] setCell_drewN alloc_drewN

theorem grownT {a b c : World} {g : Nat} (h : a.grownBy b (some g)) (hb : b.grownBy c (some g)) : a.grownBy c (some g) :=
  ⟨hb.os.trans h.os, hb.tape.trans h.tape, hb.output.trans h.output, Nat.le_trans h.size hb.size, fun k hk hn => (hb.block k (Nat.lt_of_lt_of_le hk h.size) hn).trans (h.block k hk hn)⟩
theorem grown_setRow_hi {a b : World} {g n : Nat} (cs : Array Value) (h : a.grownBy b (some g)) (hn : a.heap.size ≤ n) : a.grownBy (b.setRow n cs) (some g) := by
  refine ⟨h.os, h.tape, h.output, ?_, fun k hk hne => ?_⟩
  · have e : (b.setRow n cs).heap.size = b.heap.size := by simp
    rw [e]; exact h.size
  · rw [setRow_other b n k cs (by omega)]
    exact h.block k hk hne
theorem Bys.grown {W W' : World} {v : Value} {bs : List Int} {g : Nat} (h : Bys W v bs) (hb : W.grownBy W' (some g)) (hne : ∀ a l c, v = .slice (some a) l c → 0 < l → a.block ≠ g) : Bys W' v bs := by
  obtain ⟨ao, cap, rfl, hl, hc, hz⟩ := h
  refine ⟨ao, cap, rfl, hl, fun j hj => ?_, hz⟩
  obtain ⟨b, off, rfl, h1, h2⟩ := hc j hj
  have hn : b ≠ g := hne ⟨b, off, none⟩ _ _ rfl (by omega)
  exact ⟨b, off, rfl, Nat.lt_of_lt_of_le h1 hb.size, hb.cell h2 (by intro e; injection e with e; exact hn e)⟩
theorem bys_ne {W : World} {v : Value} {bs : List Int} (h : Bys W v bs) : ∀ a l c, v = .slice (some a) l c → 0 < l → a.block < W.heap.size := by
  rintro a l c rfl hl
  obtain ⟨_, _, e, _, hc, _⟩ := h
  injection e with e1 e2 e3
  obtain ⟨b0, off, e, hb, _⟩ := hc 0 (by omega)
  rw [e] at e1
  injection e1 with e1
  rw [e1]
  exact hb
theorem bys_nil (W : World) : Bys W (.slice none 0 0) [] := ⟨none, 0, rfl, by decide, fun j hj => by simp at hj, by simp⟩
theorem bys_bd {W : World} {v : Value} {bs : List Int} (h : Bys W v bs) : ∀ z ∈ bs, 0 ≤ z ∧ z < 256 := by
  obtain ⟨_, _, _, _, _, h⟩ := h; exact h
/-- What Expand has written, k pieces behind it. -/
def xout (key info : List Int) (n k : Nat) : List Int := (tall key info k).take n ++ zr (n - 32 * k)
theorem xout_len (key info : List Int) (n k : Nat) : (xout key info n k).length = n := by
  rw [xout, List.length_append, List.length_take, tall_len, zr_len]; omega
theorem xout_step (key info : List Int) (n k : Nat) (h : 32 * k < n) : (xout key info n k).take (32 * k) ++ (tp key info (k + 1)).take (n - 32 * k) ++ (xout key info n k).drop (32 * k + ((tp key info (k + 1)).take (n - 32 * k)).length) = xout key info n (k + 1) := by
  have hl := tall_len key info k
  have hp := tp_len key info k
  have e1 : (tall key info k).take n = tall key info k := List.take_of_length_le (by omega)
  have e2 : (xout key info n k).take (32 * k) = tall key info k := by rw [xout, e1, List.take_left' hl]
  have e3 : ∀ m, (xout key info n k).drop (32 * k + m) = zr (n - 32 * k - m) := fun m => by
    rw [xout, e1, ← hl, ← List.drop_drop, List.drop_left, zr_drop]
  rw [e2, e3, xout, tall, List.take_append, e1, hl, List.length_take, hp]
  congr 2
  omega
theorem xout_end (key info : List Int) (n k : Nat) (hk : k ≤ (n + 31) / 32) (h : ¬ 32 * k < n) : xout key info n k = xpd key info n := by
  obtain rfl : k = (n + 31) / 32 := by omega
  rw [xout, xpd, show n - 32 * ((n + 31) / 32) = 0 by omega]
  simp [zr]
/-- What an answer of Expand or Derive is. -/
def XAns (W : World) (lo : Nat) (v : Value) (key info : List Int) (n : Int) : Prop := (∃ (m : Nat) (g : Nat), n = (m : Int) ∧ m ≤ 8160 ∧ v = .tuple #[.slice (some ⟨g, 0, none⟩) m m, .int .i64 0] ∧ lo ≤ g ∧ W.heap[g]? = some (.cells (irow .u8 (xpd key info m)) 5 (0, 0))) ∨ ((n < 0 ∨ 8160 < n) ∧ v = .tuple #[.slice none 0 0, .int .i64 (if n < 0 then 1 else 2)])
end Go.Proofs.Ytmcokphkaekdaab

namespace Go.Proofs.Ytmcokphkaekdaab
open Go Go.RowKit Go.Sort
attribute [local go_sem] setCell_drewN alloc_drewN

theorem wpList_append_own_want {P : Program} (w : World) {ops : Array Oper} {rest : List Oper} {o : Oper} {a : Act} {Q : Exit → Act → World → Prop} (hw : Region.wanted o (yielded ops a.tmps) = true) (s x : Operand) (t : TypeId)
    (ho : o.op = .call { callee := .builtin .append, args := #[s, x], argTypes := #[t, t] })
    (base : Nat) (e : TypeId) (i : TypeInfo) (z : Value) (ht : P.underlying t = some (.slice e)) (hi : P.info? e = some i) (hz : i.zero = some z)
    (hsize : i.size = 1) (hby : i.bytes = 1) (hzs : z.cells.size = 1)
    (v : Value) (n : Nat) (xs : List Value) (hs : a.eval s = v) (hown : w.ownsRow base e 1 v n xs)
    (ao : Option Addr) (m c : Nat) (news : List Value) (hx : a.eval x = .slice ao m c) (hl : news.length = m * 1) (hnone : ao = none → m = 0 ∧ c = 0) (hnews : ∀ ad, ao = some ad → ∀ j u, news[j]? = some u → w.cell? (ad.add j) = some u) (h1 : ∀ u ∈ news, u.oneCell' = true)
    (h63 : n + m ≤ maxLen) (hbytes : (n + m) * 1 ≤ 140737488355328) (hbase : base ≤ w.heap.size)
    (h : ∀ v' w', w'.ownsRow base e 1 v' (n + m) (xs ++ news) → w.grownBy w' v.ownBlock → wpList P ops Q rest (a.put o.dst v') w') : wpList P ops Q (o :: rest) a w := by
  refine BigFrame.wpList_want hw fun K hK' => ?_
  cases ao with
  | some ad => exact wp_append_own w s x t ho base e i z 1 1 ht hi hz hsize hby hzs (by decide) v n xs hs hown ad m c news hx hl (hnews ad rfl) h1 h63 hbytes hbase (fun v' w' h2 h3 _ => hK' _ _ (h v' w' h2 h3))
  | none =>
    obtain ⟨rfl, rfl⟩ := hnone rfl
    have hn0 : news = [] := List.eq_nil_of_length_eq_zero (by simpa using hl)
    subst hn0
    have hrun := run_append_owned_none (P := P) w base t o.type e i 1 ht hi _ n xs hown
    unfold Oper.wp
    simp [execOp, ho, resolve, invoke, builtin, hs, hx, hrun, Result.andThen]
    exact hK' _ _ (by simpa using h v w (by simpa using hown) (World.grownBy.refl _ _))
/-- Pieces of bytes, as they lie in a world. -/
def Pcs (W : World) (v : Value) (ps : List (List Int)) : Prop := ∃ ao cap, v = .slice ao ps.length cap ∧ ps.length ≤ 9223372036854775807 ∧ ∀ i, i < ps.length → ∃ b off u uc, ao = some ⟨b, off, none⟩ ∧ b < W.heap.size ∧ W.cell? ⟨b, off + i, none⟩ = some (.slice u (ps.getD i []).length uc) ∧ Bys W (.slice u (ps.getD i []).length uc) (ps.getD i []) ∧ (u = none → uc = 0)
/-- Bools, as they lie in a world. -/
def Bls (W : World) (v : Value) (qs : List Bool) : Prop := ∃ ao cap, v = .slice ao qs.length cap ∧ qs.length ≤ 9223372036854775807 ∧ ∀ i, i < qs.length → ∃ b off, ao = some ⟨b, off, none⟩ ∧ b < W.heap.size ∧ W.cell? ⟨b, off + i, none⟩ = some (.bool (qs.getD i false))
def flat (ps : List (List Int)) (k : Nat) : List Int := (ps.take k).flatten
theorem flat_next (ps : List (List Int)) (k : Nat) (hk : k < ps.length) : flat ps (k + 1) = flat ps k ++ ps.getD k [] := by
  unfold flat
  rw [List.take_add_one, List.flatten_append, List.getElem?_eq_getElem hk, List.getD_eq_getElem?_getD, List.getElem?_eq_getElem hk]
  simp
theorem flat_all (ps : List (List Int)) : flat ps ps.length = ps.flatten := by unfold flat; rw [List.take_length]
theorem flat_len (ps : List (List Int)) (k : Nat) : (flat ps k).length ≤ ps.flatten.length := by
  have h := congrArg List.flatten (List.take_append_drop k ps)
  rw [List.flatten_append] at h
  have := congrArg List.length h
  rw [List.length_append] at this
  unfold flat
  omega
theorem nilN (w : World) : BysN w (.slice none 0 0) [] := ⟨⟨none, 0, rfl, by decide, fun j hj => by simp at hj, by simp⟩, by decide, fun a l c h _ => by cases h; rfl⟩
theorem bys_none3 {W : World} {u : Option Addr} {uc : Nat} {bs : List Int} (hB : Bys W (.slice u bs.length uc) bs) (h : u = none → uc = 0) : u = none → bs.length = 0 ∧ uc = 0 := bys_none hB (fun a l c e ha => by injection e with e1 e2 e3; subst e1; rw [← e3]; exact h ha)
end Go.Proofs.Ytmcokphkaekdaab

namespace Go.Proofs.Ytmcokphkaekdaab
open Go Go.RowKit Go.Sort
attribute [local go_sem] setCell_drewN alloc_drewN

theorem zr_get (n j : Nat) : (zr n).getD j 0 = 0 := by
  rw [List.getD_eq_getElem?_getD]
  simp only [zr, List.getElem?_replicate]
  split <;> rfl
theorem getD_set_self (l : List Int) (j : Nat) (z : Int) (h : j < l.length) : (l.set j z).getD j 0 = z := by
  rw [List.getD_eq_getElem?_getD, List.getElem?_set_self h]; rfl
theorem cell_other (w : World) (a b : Addr) (v : Value) (h : b.block ≠ a.block) : (w.setCell a v).cell? b = w.cell? b := by
  simp only [World.cell?]
  rw [heap_setCell_other w a b.block v h]
end Go.Proofs.Ytmcokphkaekdaab

namespace Go.Proofs.Ytmcokphkaekdaab
open Go Go.RowKit Go.Sort
attribute [local go_sem] setCell_drewN alloc_drewN

/-- A call as one step of a region that draws, by a contract that names what it answers only behind it. -/
theorem step_call {P : Program} {ops : Array Oper} {o : Oper} {a : Act} {w : World} {K : Act → World → Prop} {Q : Exit → Act → World → Prop} {E : Prop} (f : FuncId) (args : Array Value) {R : Value → World → Prop}
    (hg : o.guard = none) (hx : (execOp a.eval o).run P w = .ok (.enter f args) w) (c : Calls P f args w fun e w' => ∃ v, e = .returned v ∧ R v w') (h : ∀ v w', R v w' → K (a.put o.dst v) w') :
    if Region.wanted o (yielded ops a.tmps) = true then Oper.wp P o a w K Q else E := by
  have hw : Region.wanted o (yielded ops a.tmps) = true := by simp [Region.wanted, hg]
  rw [if_pos hw]
  unfold Oper.wp
  rw [hx, Oper.upon_enter]
  exact c.mono fun e w' ⟨v, he, hb⟩ => by subst he; exact h v w' hb
/-- Bytes, and nil has no room. -/
def NB (W : World) (v : Value) (bs : List Int) : Prop := Bys W v bs ∧ (∀ a l c, v = .slice a l c → a = none → c = 0)
theorem NB.keep {W W' : World} {v : Value} {bs : List Int} (h : NB W v bs) (hb : Below W.heap.size W W') : NB W' v bs := ⟨h.1.keep hb, h.2⟩
theorem BysM.nb {W : World} {v : Value} {bs : List Int} (h : BysM W v bs) : NB W v bs := ⟨h.1, h.2.2⟩
theorem NB.m {W : World} {v : Value} {bs : List Int} (h : NB W v bs) (hl : bs.length ≤ 211106232532992) : BysM W v bs := ⟨h.1, hl, h.2⟩
theorem NB.of_row {W : World} {g : Nat} {l : List Int} {t : TypeId} (hg : W.heap[g]? = some (.cells (irow .u8 l) t (0, 0))) (hl : l.length ≤ 9223372036854775807) (hz : ∀ z ∈ l, 0 ≤ z ∧ z < 256) (n cap : Nat) (hn : l.length = n) : NB W (.slice (some ⟨g, 0, none⟩) n cap) l := ⟨by rw [← hn]; exact Bys.of_row hg hl hz cap, fun a _ _ h ha => by cases h; cases ha⟩
theorem NB.of_own {W : World} {b n : Nat} {v : Value} {l : List Int} (h : W.ownsRow b 5 1 v n (l.map (Value.int .u8))) (hl : l.length ≤ 9223372036854775807) (hz : ∀ z ∈ l, 0 ≤ z ∧ z < 256) : NB W v l := ⟨Bys.of_own h hl hz, own_nil h⟩
theorem nb_nil (W : World) : NB W (.slice none 0 0) [] := ⟨bys_nil W, fun a l c h _ => by cases h; rfl⟩
theorem NB.form {W : World} {v : Value} {bs : List Int} (h : NB W v bs) : ∃ u uc, v = .slice u bs.length uc ∧ (u = none → uc = 0) := by
  obtain ⟨⟨u, uc, rfl, _⟩, hn⟩ := h
  exact ⟨u, uc, rfl, hn _ _ _ rfl⟩
/-- A row of lists of bytes. -/
theorem Pcs.of_row {W : World} {g : Nat} {t : TypeId} {vs : List Value} {ps : List (List Int)} (hg : W.heap[g]? = some (.cells vs.toArray t (0, 0))) (hl : vs.length = ps.length) (hs : ps.length ≤ 9223372036854775807) (h : ∀ i v, vs[i]? = some v → NB W v (ps.getD i [])) (n : Nat) (hn : ps.length = n) : Pcs W (.slice (some ⟨g, 0, none⟩) n n) ps := by
  subst hn
  refine ⟨_, _, rfl, hs, fun i hi => ?_⟩
  have hv : vs[i]? = some vs[i] := List.getElem?_eq_getElem (by omega)
  have hb := h i _ hv
  obtain ⟨u, uc, e, hu⟩ := hb.form
  refine ⟨g, 0, u, uc, rfl, lt_of_row hg, ?_, by rw [← e]; exact hb.1, hu⟩
  rw [Nat.zero_add, cell_of hg (by rw [List.getElem?_toArray]; exact hv), e]
theorem Pcs.two {W : World} {g : Nat} {t : TypeId} {v0 v1 : Value} {a b : List Int} (hg : W.heap[g]? = some (.cells #[v0, v1] t (0, 0))) (h0 : NB W v0 a) (h1 : NB W v1 b) : Pcs W (.slice (some ⟨g, 0, none⟩) 2 2) [a, b] :=
  Pcs.of_row (vs := [v0, v1]) hg rfl (by simp) (fun i v hv => by
    match i, hv with
    | 0, hv => cases hv; exact h0
    | 1, hv => cases hv; exact h1
    | (k + 2), hv => simp at hv) 2 rfl
theorem Pcs.three {W : World} {g : Nat} {t : TypeId} {v0 v1 v2 : Value} {a b c : List Int} (hg : W.heap[g]? = some (.cells #[v0, v1, v2] t (0, 0))) (h0 : NB W v0 a) (h1 : NB W v1 b) (h2 : NB W v2 c) : Pcs W (.slice (some ⟨g, 0, none⟩) 3 3) [a, b, c] :=
  Pcs.of_row (vs := [v0, v1, v2]) hg rfl (by simp) (fun i v hv => by
    match i, hv with
    | 0, hv => cases hv; exact h0
    | 1, hv => cases hv; exact h1
    | 2, hv => cases hv; exact h2
    | (k + 3), hv => simp at hv) 3 rfl
theorem Pcs.one {W : World} {g : Nat} {t : TypeId} {v0 : Value} {a : List Int} (hg : W.heap[g]? = some (.cells #[v0] t (0, 0))) (h0 : NB W v0 a) : Pcs W (.slice (some ⟨g, 0, none⟩) 1 1) [a] :=
  Pcs.of_row (vs := [v0]) hg rfl (by simp) (fun i v hv => by
    match i, hv with
    | 0, hv => cases hv; exact h0
    | (k + 1), hv => simp at hv) 1 rfl
theorem storeK {W : World} {g : Nat} {old l : List Int} {t : TypeId} (hg : W.heap[g]? = some (.cells (irow .u8 old) t (0, 0))) (ho : old.length = 32) (hl : l.length = 32) : (storeCells ⟨g, 0, none⟩ (irow .u8 l).toList).run Try.prog W = .ok () (W.setRow g (irow .u8 l)) := by
  have h := run_storeCells_from (P := Try.prog) g t (irow .u8 l).toList 0 (irow .u8 old) W hg (by rw [Array.length_toList, irow_size, irow_size]; omega) (fun v hv => (Array.all_eq_true_iff_forall_mem.1 (irow_one .u8 l)) v (by simpa using hv))
  rw [h, List.take_zero, List.nil_append, Array.toArray_toList]
end Go.Proofs.Ytmcokphkaekdaab

namespace Go.Proofs.Ytmcokphkaekdaab
open Go Go.RowKit Go.Sort
attribute [local go_sem] setCell_drewN alloc_drewN

theorem NB.grown {W W' : World} {v : Value} {bs : List Int} {row : Option Nat} (h : NB W v bs) (hb : W.grownBy W' row) (hne : ∀ a l c, v = .slice (some a) l c → 0 < l → row ≠ some a.block) : NB W' v bs := by
  obtain ⟨⟨ao, cap, rfl, hl, hc, hz⟩, hn⟩ := h
  refine ⟨⟨ao, cap, rfl, hl, fun j hj => ?_, hz⟩, hn⟩
  obtain ⟨b, off, rfl, h1, h2⟩ := hc j hj
  have hn' := hne ⟨b, off, none⟩ _ _ rfl (by omega)
  exact ⟨b, off, rfl, Nat.lt_of_lt_of_le h1 hb.size, hb.cell h2 (by intro e; exact hn' e.symm)⟩
theorem ex1 {f : FuncId} {args : Array Value} {w : World} {v : Value} {B : World → Prop} (h : Calls Try.prog f args w fun e w' => e = .returned v ∧ B w') : Calls Try.prog f args w fun e w' => ∃ u, e = .returned u ∧ (u = v ∧ B w') := h.mono fun _ _ ⟨h1, h2⟩ => ⟨v, h1, rfl, h2⟩
theorem wrap8 (x : Int) (h0 : 0 ≤ x) (h1 : x < 256) : IntKind.u8.wrap x = x := by
  simp [IntKind.wrap, IntKind.bits, IntKind.signed]
  exact Int.emod_eq_of_lt h0 h1
theorem fin_row {wr W : World} {g : Nat} {old P : Array Value} {t : TypeId} (hb : Below wr.heap.size wr W) (hg : wr.heap.size ≤ g) (r : W.heap[g]? = some (.cells old t (0, 0))) : ∃ Wf, Wf = W.setRow g P ∧ Wf.heap[g]? = some (.cells P t (0, 0)) ∧ Below wr.heap.size wr Wf ∧ wr.heap.size ≤ g := ⟨_, rfl, setRow_heap W g _ P _ _ r, below_setRow hb hg P, hg⟩
theorem own_cap {W : World} {b n : Nat} {T : TypeId} {v : Value} {xs : List Value} (h : W.ownsRow b T 1 v n xs) : ∀ a l c, v = .slice a l c → l ≤ c := by
  intro a l c e
  obtain ⟨_, ⟨rfl, _⟩ | ⟨g, cap, cur, rfl, _, _, h3, _⟩⟩ := h
  · cases e; exact Nat.le_refl _
  · cases e; exact h3
theorem slice_to (ao : Option Addr) (len cap n : Nat) (h : n ≤ cap) (W : World) : (Instr.sliceAt 22 (.slice ao len cap) none (some (.int .i64 (n : Int))) none).run Try.prog W = .ok (.slice ao n cap) W := by
  rw [run_sliceAt_slice _ _ _ _ _ _ elem8, run_slice_h W 22 ao len cap elem8 .i64 _ (by omega) (by omega), size8]
  show Result.ok (sliced _ _ _ _ 1) W = _
  rw [Int.toNat_natCast, sliced, Nat.zero_mul]
  by_cases e : cap = 0
  · rw [if_pos e]; rfl
  · rw [if_neg e]
    cases ao <;> rfl
theorem Bys.take {W : World} {ao : Option Addr} {cap n : Nat} {bs : List Int} (h : Bys W (.slice ao bs.length cap) bs) (hn : n ≤ bs.length) : Bys W (.slice ao n cap) (bs.take n) := by
  obtain ⟨ao', cap', e, hl, hc, hz⟩ := h
  cases e
  have hln : (bs.take n).length = n := by rw [List.length_take]; omega
  refine ⟨ao, cap, by rw [hln], by omega, fun j hj => ?_, fun z h => hz z (List.mem_of_mem_take h)⟩
  obtain ⟨b, off, e, h1, h2⟩ := hc j (by omega)
  refine ⟨b, off, e, h1, ?_⟩
  rw [h2, List.getD_eq_getElem?_getD, List.getD_eq_getElem?_getD, List.getElem?_take_of_lt (by omega)]
/-- What the two roads come to. -/
theorem bel2 (w : World) (a b : Obj) : Below w.heap.size w ((w.alloc a).alloc b) := ((Below.refl _ _).alloc (Nat.le_refl _) _).alloc (by simp) _
theorem bel3 (w : World) (a b c : Obj) : Below w.heap.size w (((w.alloc a).alloc b).alloc c) := (((Below.refl _ _).alloc (Nat.le_refl _) _).alloc (by simp) _).alloc (by simp; omega) _
theorem pieces3 {W V : World} {g1 g3 : Nat} {t t3 : TypeId} {v0 v1 : Value} {a b : List Int} {x : Int} (hb : Below W.heap.size W V) (h0 : NB W v0 a) (h1 : NB W v1 b) (r1 : V.heap[g1]? = some (.cells #[.int .u8 x] t (0, 0))) (hx : ∀ z ∈ [x], 0 ≤ z ∧ z < 256) (r3 : V.heap[g3]? = some (.cells #[v0, v1, .slice (some ⟨g1, 0, none⟩) 1 1] t3 (0, 0))) : Pcs V (.slice (some ⟨g3, 0, none⟩) 3 3) [a, b, [x]] :=
  Pcs.three r3 (h0.keep hb) (h1.keep hb) (NB.of_row (l := [x]) r1 (by simp) hx 1 1 rfl)
end Go.Proofs.Ytmcokphkaekdaab

namespace Go.Proofs.Ytmcokphkaekdaab
open Go Go.RowKit Go.Sort
attribute [local go_sem] setCell_drewN alloc_drewN

/-- The marks behind what is handed. -/
def mk4 (k : Nat) : List Int := (List.range k).map fun (i : Nat) => 100 + (i : Int)
theorem mk4_len (k : Nat) : (mk4 k).length = k := by simp [mk4]
theorem mk4_get (k i : Nat) (h : i < k) : (mk4 k).getD i 0 = 100 + (i : Int) := by
  simp [mk4, List.getD_eq_getElem?_getD, List.getElem?_map, List.getElem?_range h]
/-- Some marks are there, zeros behind them. -/
def mz (k : Nat) : List Int := mk4 k ++ zr (80 - k)
theorem mz_len (k : Nat) (h : k ≤ 80) : (mz k).length = 80 := by simp [mz, mk4_len, zr_len]; omega
theorem mz_set (k : Nat) (h : k < 80) : (mz k).set k (100 + (k : Int)) = mz (k + 1) := by
  have e1 : zr (80 - k) = 0 :: zr (80 - (k + 1)) := by
    rw [show 80 - k = (80 - (k + 1)) + 1 by omega]; rfl
  have e2 : mk4 (k + 1) = mk4 k ++ [100 + (k : Int)] := by simp [mk4, List.range_succ]
  rw [mz, mz, e1, e2, List.set_append_right _ _ (by rw [mk4_len]; exact Nat.le_refl _), mk4_len, Nat.sub_self, List.set_cons_zero, List.append_assoc]
  rfl
theorem bmz_set (bs : List Int) (k : Nat) (h : k < 80) : (bs ++ mz k).set (bs.length + k) (100 + (k : Int)) = bs ++ mz (k + 1) := by
  rw [List.set_append_right _ _ (by omega), Nat.add_sub_cancel_left, mz_set k h]
/-- The bytes turned about and changed. -/
def tn4 (bs : List Int) : List Int := xl bs.reverse 51
theorem tn4_len (bs : List Int) : (tn4 bs).length = bs.length := by simp [tn4, xl_len]
theorem tn4_bd (bs : List Int) : ∀ z ∈ tn4 bs, 0 ≤ z ∧ z < 256 := xl_bd _ _
theorem tn4_get (bs : List Int) (i : Nat) (h : i < bs.length) : (tn4 bs).getD i 0 = bits .xor .u8 (bs.getD (bs.length - 1 - i) 0) 51 := by
  rw [tn4, xl_get _ _ _ (by simpa using h), List.getD_eq_getElem?_getD, List.getElem?_reverse h, List.getD_eq_getElem?_getD]
theorem make_len (n : Nat) (hn : n ≤ 140737488355328) (w : World) : (Instr.makeSlice 22 (.int .i64 (n : Int)) (.int .i64 (n : Int))).run Try.prog w = .ok (.slice (some ⟨w.heap.size, 0, none⟩) n n) (w.alloc (.cells (irow .u8 (zr n)) 5)) := make_i64 n (by omega) w
theorem conv_bys {W : World} {v : Value} {bs : List Int} (h : Bys W v bs) : (convert 22 9 v).run Try.prog W = .ok (.string (strOfNums bs)) W := by
  obtain ⟨ao, cap, rfl, _, hc, _⟩ := h
  cases ao with
  | none =>
    have : bs = [] := by
      cases bs with
      | nil => rfl
      | cons x xs => obtain ⟨b, off, e, _⟩ := hc 0 (by simp); cases e
    subst this
    exact run_convert_bytes_nil W 22 5 Try.underlying22 Try.underlying5 _ _ 9 Try.underlying9
  | some ad =>
    rcases Nat.eq_zero_or_pos bs.length with e0 | e0
    · have : bs = [] := List.eq_nil_of_length_eq_zero e0
      subst this
      obtain ⟨b, off, sp⟩ := ad
      rw [run_convert_bytes_string W 22 9 5 _ _ _ Try.underlying22 Try.underlying5 Try.underlying9]
      have := run_bytesToString (P := Try.prog) W ⟨b, off, sp⟩ 0 cap [] (by rfl)
      exact this
    · obtain ⟨b, off, e, _⟩ := hc 0 e0
      cases e
      exact run_convert_bytes_arg W 22 5 Try.underlying22 Try.underlying5 b off bs.length cap bs rfl (fun i hi => by
        obtain ⟨b', off', e, _, h⟩ := hc i hi
        cases e
        exact h) 9 Try.underlying9
theorem str_inj {a b : List Int} (ha : ∀ z ∈ a, 0 ≤ z ∧ z < 256) (hb : ∀ z ∈ b, 0 ≤ z ∧ z < 256) (h : strOfNums a = strOfNums b) : a = b := by
  have h1 := congrArg (fun x => x.data.toList) h
  simp only [strOfNums_data] at h1
  have key : ∀ (a b : List Int), (∀ z ∈ a, 0 ≤ z ∧ z < 256) → (∀ z ∈ b, 0 ≤ z ∧ z < 256) → a.map (fun n => UInt8.ofNat n.toNat) = b.map (fun n => UInt8.ofNat n.toNat) → a = b := by
    intro a
    induction a with
    | nil => intro b _ _ h; cases b with
      | nil => rfl
      | cons y ys => simp at h
    | cons x xs ih => intro b ha hb h; cases b with
      | nil => simp at h
      | cons y ys =>
        simp only [List.map_cons, List.cons.injEq] at h
        have hx := ha x (by simp)
        have hy := hb y (by simp)
        have e := congrArg UInt8.toNat h.1
        simp only [UInt8.toNat_ofNat'] at e
        rw [Nat.mod_eq_of_lt (by omega), Nat.mod_eq_of_lt (by omega)] at e
        have exy : x = y := by omega
        rw [exy, ih ys (fun z h => ha z (by simp [h])) (fun z h => hb z (by simp [h])) h.2]
  exact key a b ha hb h1
theorem str_dec {a b : List Int} (ha : ∀ z ∈ a, 0 ≤ z ∧ z < 256) (hb : ∀ z ∈ b, 0 ≤ z ∧ z < 256) : ((strOfNums a).toList == (strOfNums b).toList) = decide (a = b) := by
  by_cases h : a = b
  · subst h; simp
  · rw [decide_eq_false h, beq_eq_false_iff_ne]
    intro e
    rw [ByteArray.toList_eq, ByteArray.toList_eq] at e
    exact h (str_inj ha hb (Go.WideShapes.bytes_inj e))
set_option maxRecDepth 100000 in
set_option maxHeartbeats 4000000 in
theorem l_same (a b : List Int) (w : World) (u v : Value) (hu : Bys w u a) (hv : Bys w v b) : Calls Try.prog 6 #[u, v] w fun e w' => e = .returned (.bool (decide (a = b))) ∧ Below w.heap.size w w' := by
  have c1 := conv_bys hu
  have c2 := conv_bys hv
  obtain ⟨ao, cap, rfl, _, _, hza⟩ := hu
  obtain ⟨bo, bcap, rfl, _, _, hzb⟩ := hv
  go_enter Try.func6, Try.ntmps6
  have hd := str_dec hza hzb
  go_wp2
  go_ret
  exact ⟨rfl, Below.refl _ _⟩
set_option maxRecDepth 100000 in
set_option maxHeartbeats 4000000 in
theorem l_hand (bs : List Int) (w : World) (v : Value) (hB : Bys w v bs) (hl : bs.length ≤ 140737488355200) : Calls Try.prog 4 #[v] w fun e w' => e = .returned (.slice (some ⟨w.heap.size, 0, none⟩) (bs.length + 80) (bs.length + 80)) ∧ w'.heap[w.heap.size]? = some (.cells (irow .u8 (bs ++ mk4 80)) 5 (0, 0)) ∧ Below w.heap.size w w' := by
  have hmk := make_len (bs.length + 80) (by omega) w
  rw [show ((bs.length + 80 : Nat) : Int) = (bs.length : Int) + 80 by omega] at hmk
  have r0 := hp1_0 w (.cells (irow .u8 (zr (bs.length + 80))) 5)
  have hw : Below w.heap.size w (w.alloc (.cells (irow .u8 (zr (bs.length + 80))) 5)) := (Below.refl _ _).alloc (Nat.le_refl _) _
  have hcp := copy_bys (o := 0) (dLen := bs.length + 80) (dCap := bs.length + 80) r0 (hB.keep hw) (by omega) (by rw [zr_len]; omega)
  have ez : (zr (bs.length + 80)).take 0 ++ bs ++ (zr (bs.length + 80)).drop (0 + bs.length) = bs ++ mz 0 := by
    rw [List.take_zero, List.nil_append, zr_drop, Nat.zero_add, Nat.add_sub_cancel_left]; rfl
  rw [ez] at hcp
  have hgo : goInt bs.length = .int .i64 (bs.length : Int) := rfl
  rw [hgo] at hcp
  have r1 := setRow_heap _ (w.heap.size) _ (irow .u8 (bs ++ mz 0)) _ _ r0
  replace hw := below_setRow hw (Nat.le_refl _) (irow .u8 (bs ++ mz 0))
  obtain ⟨ao, cap, rfl, _⟩ := id hB
  go_enter Try.func4, Try.ntmps4
  go_wp2
  generalize (w.alloc (.cells (irow .u8 (zr (bs.length + 80))) 5)).setRow w.heap.size (irow .u8 (bs ++ mz 0)) = w1 at *
  clear hcp ez hgo hmk r0
  go_loopw [4] (fun i wr => ∃ k : Nat, k ≤ 80 ∧ i = .int .i64 k ∧ wr.heap[w.heap.size]? = some (.cells (irow .u8 (bs ++ mz k)) 5 (0, 0)) ∧ Below w.heap.size w wr) (fun i _ => 80 - (intOf i).toNat)
  case atStart => exact ⟨0, by omega, rfl, r1, hw⟩
  case round =>
    clear r1 hw
    obtain ⟨k, hk, rfl, r1, hw⟩ := hrel
    by_cases hlt : k < 80
    · have hd : decide ((k : Int) < 80) = true := by simp; omega
      have hmod : (100 + (k : Int)) % 256 = 100 + (k : Int) := by omega
      have hml := mz_len k (by omega)
      have cf := row_frozen r1 (bs.length + k)
      have cc := irow_cell r1 (j := bs.length + k) (by rw [List.length_append]; omega)
      have r2 := irow_set r1 (bs.length + k) (100 + (k : Int))
      rw [bmz_set bs k hlt] at r2
      have hw2 := hw.setCell (show w.heap.size ≤ (⟨w.heap.size, bs.length + k, none⟩ : Addr).block from Nat.le_refl _) (.int .u8 (100 + (k : Int)))
      clear r1 hw hml
      generalize (bs ++ mz k).getD (bs.length + k) 0 = z at *
      go_wp2
      refine ⟨⟨k + 1, by omega, by go_num, r2, hw2⟩, ?_⟩
      simp [intOf]; omega
    · obtain rfl : k = 80 := by omega
      have hd : decide ((80 : Int) < 80) = false := by decide
      have e80 : bs ++ mz 80 = bs ++ mk4 80 := by rw [mz, Nat.sub_self]; simp [zr]
      rw [e80] at r1
      go_wp2
      go_ret
      exact ⟨rfl, r1, hw⟩
set_option maxRecDepth 100000 in
set_option maxHeartbeats 4000000 in
theorem l_left (bs : List Int) (g : Nat) (w : World) (v : Value) (hB : Bys w v bs) (hl : bs.length ≤ 140737488355200) (rg : w.heap[g]? = some (.cells (irow .u8 (bs ++ mk4 80)) 5 (0, 0))) : Calls Try.prog 7 #[.slice (some ⟨g, 0, none⟩) (bs.length + 80) (bs.length + 80), v] w fun e w' => e = .returned (.bool true) ∧ Below w.heap.size w w' := by
  have hml := mk4_len 80
  have sl := slice_to (some ⟨g, 0, none⟩) (bs.length + 80) (bs.length + 80) bs.length (by omega)
  have hBl := Bys.of_prefix rg (by omega) (bys_bd hB) (bs.length + 80)
  have cS := l_same bs bs w _ _ hBl hB
  rw [decide_eq_true rfl] at cS
  replace cS := cS
  obtain ⟨ao, cap, rfl, _⟩ := id hB
  go_enter Try.func7, Try.ntmps7
  go_wp2
  go_loopw [5] (fun i wr => ∃ k : Nat, k ≤ 80 ∧ i = .int .i64 k ∧ wr = w) (fun i _ => 80 - (intOf i).toNat)
  case atStart => exact ⟨0, by omega, rfl, rfl⟩
  case round =>
    obtain ⟨k, hk, rfl, rfl⟩ := hrel
    by_cases hlt : k < 80
    · have hd : decide ((k : Int) < 80) = true := by simp; omega
      have hmod : (100 + (k : Int)) % 256 = 100 + (k : Int) := by omega
      have cc := irow_cell rg (j := bs.length + k) (by rw [List.length_append]; omega)
      have eg : (bs ++ mk4 80).getD (bs.length + k) 0 = 100 + (k : Int) := by
        rw [List.getD_eq_getElem?_getD, List.getElem?_append_right (by omega), Nat.add_sub_cancel_left, ← List.getD_eq_getElem?_getD, mk4_get 80 k hlt]
      rw [eg] at cc
      clear cS hBl hB rg eg
      go_wp2
      refine ⟨⟨k + 1, by omega, by go_num, trivial⟩, ?_⟩
      simp [intOf]; omega
    · obtain rfl : k = 80 := by omega
      have hd : decide ((80 : Int) < 80) = false := by decide
      go_wp2_with (fail)
      refine cS.mono ?_
      rintro e_ w1 ⟨rfl, hb⟩
      go_wp2
      go_ret
      exact ⟨rfl, hb⟩
end Go.Proofs.Ytmcokphkaekdaab

namespace Go.Proofs.Ytmcokphkaekdaab
open Go Go.RowKit Go.Sort
attribute [local go_sem] setCell_drewN alloc_drewN

/-- A call that answers v in every world that keeps what was in w. -/
def GivesB (w : World) (f : FuncId) (args : Array Value) (v : Value) : Prop := ∀ W, Below w.heap.size w W → Calls Try.prog f args W fun e w' => e = .returned v ∧ Below W.heap.size W w'
theorem GivesB.keep {w W : World} {f : FuncId} {args : Array Value} {v : Value} (h : GivesB w f args v) (hb : Below w.heap.size w W) : GivesB W f args v := fun V hV => h V (Below.after hb hV)
theorem GivesB.re {w : World} {f : FuncId} {args : Array Value} {v : Value} (h : GivesB w f args v) {d : Nat} {os : Array Obj} : Calls Try.prog f args (grow (redrawn w d) os) fun e w'' => e = .returned v ∧ ∃ p : Regrown, w'' = grow (redrawn w p.d) p.os := Calls.regrown_of (h _ (below_regrown w d os))
theorem GivesB.at {w : World} {f : FuncId} {args : Array Value} {v : Value} (h : GivesB w f args v) : Calls Try.prog f args w fun e w' => e = .returned v ∧ Below w.heap.size w w' := h w (Below.refl _ _)
theorem bits_nat8 (op : BinOp) (x y : Int) (hx : 0 ≤ x ∧ x < 256) (hy : 0 ≤ y ∧ y < 256) : (op = .or → bits op .u8 x y = ((x.toNat ||| y.toNat : Nat) : Int)) ∧ (op = .xor → bits op .u8 x y = ((x.toNat ^^^ y.toNat : Nat) : Int)) := by
  have e1 : (BitVec.ofInt 8 x).toNat = x.toNat := by
    rw [BitVec.toNat_ofInt, Int.emod_eq_of_lt hx.1 (by simpa using hx.2)]
  have e2 : (BitVec.ofInt 8 y).toNat = y.toNat := by
    rw [BitVec.toNat_ofInt, Int.emod_eq_of_lt hy.1 (by simpa using hy.2)]
  have l1 : x.toNat < 2 ^ 8 := by omega
  have l2 : y.toNat < 2 ^ 8 := by omega
  constructor
  · rintro rfl
    have hl := Nat.or_lt_two_pow l1 l2
    show IntKind.u8.wrap (((BitVec.ofInt 8 x ||| BitVec.ofInt 8 y).toNat : Nat) : Int) = _
    rw [BitVec.toNat_or, e1, e2, wrap8 _ (by omega) (by omega)]
  · rintro rfl
    have hl := Nat.xor_lt_two_pow l1 l2
    show IntKind.u8.wrap (((BitVec.ofInt 8 x ^^^ BitVec.ofInt 8 y).toNat : Nat) : Int) = _
    rw [BitVec.toNat_xor, e1, e2, wrap8 _ (by omega) (by omega)]
theorem or8_zero (x y : Int) (hx : 0 ≤ x ∧ x < 256) (hy : 0 ≤ y ∧ y < 256) : bits .or .u8 x y = 0 ↔ x = 0 ∧ y = 0 := by
  rw [(bits_nat8 .or x y hx hy).1 rfl]
  constructor
  · intro h
    have h2 : x.toNat ||| y.toNat = 0 := by omega
    rw [Nat.or_eq_zero_iff] at h2
    omega
  · rintro ⟨rfl, rfl⟩
    rfl
theorem xor8_zero (x y : Int) (hx : 0 ≤ x ∧ x < 256) (hy : 0 ≤ y ∧ y < 256) : bits .xor .u8 x y = 0 ↔ x = y := by
  rw [(bits_nat8 .xor x y hx hy).2 rfl]
  constructor
  · intro h
    have h2 : x.toNat ^^^ y.toNat = 0 := by omega
    have h3 := congrArg (fun n => n ^^^ y.toNat) h2
    simp only [Nat.xor_assoc, Nat.xor_self, Nat.xor_zero, Nat.zero_xor] at h3
    omega
  · rintro rfl
    simp
/-- What is unlike in the first k. -/
def un (a b : List Int) : Nat → Int
  | 0 => 0
  | k + 1 => bits .or .u8 (un a b k) (bits .xor .u8 (a.getD k 0) (b.getD k 0))
theorem bits8_bd' (op : BinOp) (a b : Int) : 0 ≤ bits op .u8 a b ∧ bits op .u8 a b < 256 := by
  unfold bits
  simp only [IntKind.wrap, IntKind.bits, IntKind.signed]
  constructor
  · exact Int.emod_nonneg _ (by decide)
  · exact Int.emod_lt_of_pos _ (by decide)
theorem un_bd (a b : List Int) : ∀ k, 0 ≤ un a b k ∧ un a b k < 256
  | 0 => by simp [un]
  | k + 1 => bits8_bd' _ _ _
theorem un_zero {a b : List Int} (ha : ∀ z ∈ a, 0 ≤ z ∧ z < 256) (hb : ∀ z ∈ b, 0 ≤ z ∧ z < 256) : ∀ k, un a b k = 0 ↔ ∀ i, i < k → a.getD i 0 = b.getD i 0
  | 0 => by simp [un]
  | k + 1 => by
    rw [un, or8_zero _ _ (un_bd a b k) (bits8_bd' _ _ _), xor8_zero _ _ (getD_bd ha k) (getD_bd hb k), un_zero ha hb k]
    constructor
    · rintro ⟨h1, h2⟩ i hi
      rcases Nat.lt_or_ge i k with q | q
      · exact h1 i q
      · obtain rfl : i = k := by omega
        exact h2
    · exact fun h => ⟨fun i hi => h i (by omega), h k (by omega)⟩
theorem un_eq {a b : List Int} (ha : ∀ z ∈ a, 0 ≤ z ∧ z < 256) (hb : ∀ z ∈ b, 0 ≤ z ∧ z < 256) (hl : a.length = b.length) : decide (un a b a.length = 0) = decide (a = b) := by
  congr 1
  rw [eq_iff_iff, un_zero ha hb]
  constructor
  · intro h
    apply List.ext_getElem hl
    intro i h1 h2
    have := h i h1
    rw [List.getD_eq_getElem?_getD, List.getD_eq_getElem?_getD, List.getElem?_eq_getElem h1, List.getElem?_eq_getElem h2] at this
    exact this
  · rintro rfl i _
    rfl
set_option maxRecDepth 100000 in
set_option maxHeartbeats 4000000 in
theorem a_same (a b : List Int) (w : World) (u v : Value) (hu : Bys w u a) (hv : Bys w v b) : Calls Try.prog 5 #[u, v] w fun e w' => e = .returned (.bool (decide (a = b))) ∧ Below w.heap.size w w' := by
  have hza := bys_bd hu
  have hzb := bys_bd hv
  obtain ⟨ao, cap, rfl, hla, hca, _⟩ := hu
  obtain ⟨bo, bcap, rfl, hlb, hcb, _⟩ := hv
  by_cases hl : a.length = b.length
  · have hde := un_eq hza hzb hl
    have hnn : ((a.length : Int) != (b.length : Int)) = false := by rw [hl]; simp
    have hun := un_bd a b
    clear hza hzb
    go_enter Try.func5, Try.ntmps5
    go_wp2
    go_loopw [5, 14] (fun x i wr => ∃ k : Nat, k ≤ a.length ∧ i = .int .i64 k ∧ x = .int .u8 (un a b k) ∧ Below w.heap.size w wr) (fun _ i _ => a.length - (intOf i).toNat)
    case atStart => exact ⟨0, by omega, rfl, rfl, Below.refl _ _⟩
    case round =>
      obtain ⟨k, hk, rfl, rfl, hw⟩ := hrel
      by_cases hlt : k < a.length
      · have hd : decide ((k : Int) < (a.length : Int)) = true := by simp; omega
        have hlt2 : k < b.length := by omega
        obtain ⟨b1, o1, rfl, p1, c1⟩ := hca k hlt
        obtain ⟨b2, o2, rfl, p2, c2⟩ := hcb k hlt2
        replace c1 := (hw.cell (p := ⟨b1, o1 + k, none⟩) p1).trans c1
        replace c2 := (hw.cell (p := ⟨b2, o2 + k, none⟩) p2).trans c2
        have eU : un a b (k + 1) = bits .or .u8 (un a b k) (bits .xor .u8 (a.getD k 0) (b.getD k 0)) := rfl
        replace eU := hide eU
        clear hca hcb hde hnn
        generalize un a b k = U at *
        generalize a.getD k 0 = x at *
        generalize b.getD k 0 = y at *
        go_wp2
        have k1 : ∀ p : Regrown, (grow (redrawn wr p.d) p.os).cell? ⟨b1, o1 + k, none⟩ = some (.int .u8 x) := fun p => cell_regrown (c1) p.d p.os
        have k2 : ∀ p : Regrown, (grow (redrawn wr p.d) p.os).cell? ⟨b2, o2 + k, none⟩ = some (.int .u8 y) := fun p => cell_regrown (c2) p.d p.os
        refine wp_region_quiet_below (by kernel_rfl) (by kernel_rfl) ?_
        go_big_quiet_step (fail)
        go_big_quiet_step (fail)
        go_big_quiet_step (fail)
        go_big_quiet_step (fail)
        go_big_quiet_step (fail)
        go_big_quiet_step (fail)
        go_big_quiet_step (fail)
        go_big_quiet_step (fail)
        go_big_quiet_step (fail)
        go_big_quiet_step (fail)
        go_big_quiet_step (fail)
        go_big_quiet_step (fail)
        refine wpQuiet_nil ?_
        rintro _ ⟨p, rfl⟩
        have hb := below_regrown wr p.d p.os
        generalize grow (redrawn wr p.d) p.os = w2 at *
        clear k1 k2
        replace hw := Below.after hw hb
        clear hb

        go_wp2
        refine ⟨⟨k + 1, by omega, by go_num, by rw [eU.out], hw⟩, ?_⟩
        simp [intOf]; omega
      · obtain rfl : k = a.length := by omega
        have hd : decide ((a.length : Int) < (a.length : Int)) = false := by simp
        have hq : (un a b a.length == 0) = decide (a = b) := by rw [← hde]; rfl
        generalize un a b a.length = U at *
        go_wp2
        go_ret
        exact ⟨rfl, hw⟩
  · have hne : decide (a = b) = false := decide_eq_false (fun h => hl (by rw [h]))
    have hnn : ((a.length : Int) != (b.length : Int)) = true := by rw [bne_iff_ne]; omega
    rw [hne]
    go_enter Try.func5, Try.ntmps5
    go_wp2
    go_ret
    exact ⟨rfl, Below.refl _ _⟩
theorem flip16 (x : Int) (hx : 0 ≤ x ∧ x < 256) : bits .xor .u8 x 16 ≠ x := by
  rw [(bits_nat8 .xor x 16 hx (by decide)).2 rfl]
  intro h
  have h2 : x.toNat ^^^ 16 = x.toNat := by
    have : (16 : Int).toNat = 16 := rfl
    rw [this] at h
    omega
  have h3 := congrArg (fun n => x.toNat ^^^ n) h2
  simp [← Nat.xor_assoc] at h3
set_option maxRecDepth 100000 in
set_option maxHeartbeats 4000000 in
theorem macSames_any (a b : List Int) (n : Int) (w : World) (va vb : Value) (hA : BysN w va a) (hB : BysN w vb b) : Calls Try.prog 3 #[va, vb, .int .i64 n] w fun e w' => e = .returned (.bool true) ∧ Below w.heap.size w w' := by
  have hza := bys_bd hA.1
  have hzb := bys_bd hB.1
  have hal : a.length ≤ 140737488351232 := hA.2.1
  have hbl : b.length ≤ 140737488351232 := hB.2.1
  have sl1 : ∀ g W, _ := fun g W => slice_to (some ⟨g, 0, none⟩) (a.length + 80) (a.length + 80) a.length (by omega) W
  have sl2 : ∀ g W, _ := fun g W => slice_to (some ⟨g, 0, none⟩) (b.length + 80) (b.length + 80) b.length (by omega) W
  have sl3 : ∀ g W, _ := fun g W => slice_to (some ⟨g, 0, none⟩) (a.length + 80) (a.length + 80) (a.length + 1) (by omega) W
  rw [show ((a.length + 1 : Nat) : Int) = (a.length : Int) + 1 by omega] at sl3
  obtain ⟨ua, uac, rfl, _⟩ := id hA.1
  obtain ⟨ub, ubc, rfl, _⟩ := id hB.1
  go_enter Try.func3, Try.ntmps3
  go_wp2_with (fail)
  refine (l_hand a w _ hA.1 (by omega)).mono ?_
  rintro e_ w1 ⟨rfl, ra, hw⟩
  have lga := lt_of_row ra
  go_wp2_with (fail)
  refine (l_hand b w1 _ (hB.1.keep hw) (by omega)).mono ?_
  rintro e_ w2 ⟨rfl, rb, hb⟩
  replace ra := keep hb ra
  replace hw := Below.after hw hb
  clear hb
  generalize w1.heap.size = gb at *
  have cM : GivesB w2 5 #[.slice (some ⟨w.heap.size, 0, none⟩) a.length (a.length + 80), .slice (some ⟨gb, 0, none⟩) b.length (b.length + 80)] (.bool (decide (a = b))) := fun W hW => a_same a b W _ _ (Bys.of_prefix (keep hW ra) (by omega) hza _) (Bys.of_prefix (keep hW rb) (by omega) hzb _)
  have cS : GivesB w2 6 #[.slice ua a.length uac, .slice ub b.length ubc] (.bool (decide (a = b))) := fun W hW => l_same a b W _ _ ((hA.1.keep hw).keep hW) ((hB.1.keep hw).keep hW)
  have cL1 : GivesB w2 7 #[.slice (some ⟨w.heap.size, 0, none⟩) (a.length + 80) (a.length + 80), .slice ua a.length uac] (.bool true) := fun W hW => l_left a _ W _ ((hA.1.keep hw).keep hW) (by omega) (keep hW ra)
  have cL2 : GivesB w2 7 #[.slice (some ⟨gb, 0, none⟩) (b.length + 80) (b.length + 80), .slice ub b.length ubc] (.bool true) := fun W hW => l_left b _ W _ ((hB.1.keep hw).keep hW) (by omega) (keep hW rb)
  clear rb
  have key : ∀ W, Below w2.heap.size w2 W → W.heap[w.heap.size]? = some (.cells (irow .u8 (a ++ mk4 80)) 5 (0, 0)) := fun W hW => keep hW ra
  replace key := hide key
  generalize decide (a = b) = d at *
  have hs2 := hw.size
  go_wp2_with (fail)
  cases d
  · clear key
    have Hra := keepr ra
    refine wp_region_quiet_below (by kernel_rfl) (by kernel_rfl) ?_
    go_big_quiet_step (fail)
    go_big_quiet_step (fail)
    go_big_quiet_step (fail)
    go_big_quiet_step (fail)
    go_big_quiet_step (fail)
    go_big_quiet_step (fail)
    go_big_quiet_step (fail)
    go_big_quiet_step (fail)
    go_big_quiet_step (exact cM.re)
    go_big_quiet_step (fail)
    go_big_quiet_step (fail)
    go_big_quiet_step (exact cS.re)
    go_big_quiet_step (fail)
    go_big_quiet_step (fail)
    go_big_quiet_step (fail)
    go_big_quiet_step (fail)
    go_big_quiet_step (exact cL1.re)
    go_big_quiet_step (fail)
    go_big_quiet_step (fail)
    go_big_quiet_step (fail)
    go_big_quiet_step (fail)
    go_big_quiet_step (fail)
    go_big_quiet_step (exact cL2.re)
    go_big_quiet_step (fail)
    go_big_quiet_step (fail)
    refine wpQuiet_nil ?_
    rintro _ ⟨p, rfl⟩
    have hb := below_regrown w2 p.d p.os
    generalize grow (redrawn w2 p.d) p.os = w3 at *
    clear Hra
    replace ra := keep hb ra
    replace cM := cM.keep hb
    replace cS := cS.keep hb
    replace cL1 := cL1.keep hb
    replace cL2 := cL2.keep hb
    replace hw := Below.after hw hb
    clear hb
    clear cM cS cL1 cL2
    go_wp2_with (fail)
    have lra := lt_of_row ra
    refine (l_hand a w3 _ (hA.1.keep hw) (by omega)).mono ?_
    rintro e_ w4 ⟨rfl, rt, hb⟩
    have lg3 := hw.size
    replace ra := keep hb ra
    replace hw := Below.after hw hb
    clear hb
    have l3 := lt_of_row rt
    have hne3 : w.heap.size < w3.heap.size := by omega
    generalize w3.heap.size = gt at *
    have mk1 : a ++ mk4 80 = (a ++ [100]) ++ (mk4 80).drop 1 := by
      rw [List.append_assoc]; rfl
    have hB1 : ∀ W, Below w4.heap.size w4 W → Bys W (.slice (some ⟨gt, 0, none⟩) (a.length + 1) (a.length + 80)) (a ++ [100]) := fun W hW => by
      have h := keep hW rt
      rw [mk1] at h
      have := Bys.of_prefix h (by simp; omega) (both_bd hza (by decide)) (a.length + 80)
      simpa using this
    have cM : GivesB w4 5 #[.slice (some ⟨w.heap.size, 0, none⟩) a.length (a.length + 80), .slice (some ⟨gt, 0, none⟩) a.length (a.length + 80)] (.bool true) := fun W hW => by
      have h := a_same a a W _ _ (Bys.of_prefix (keep hW ra) (by omega) hza (a.length + 80)) (Bys.of_prefix (keep hW rt) (by omega) hza (a.length + 80))
      rw [decide_eq_true rfl] at h
      exact h
    have cN : GivesB w4 5 #[.slice (some ⟨w.heap.size, 0, none⟩) a.length (a.length + 80), .slice (some ⟨gt, 0, none⟩) (a.length + 1) (a.length + 80)] (.bool false) := fun W hW => by
      have h := a_same a (a ++ [100]) W _ _ (Bys.of_prefix (keep hW ra) (by omega) hza (a.length + 80)) (hB1 W hW)
      rw [decide_eq_false (fun e => by have := congrArg List.length e; simp at this)] at h
      exact h
    clear hB1 mk1
    go_wp2_with (fail)
    have Hra := keepr ra
    have Hrt := keepr rt
    refine wp_region_quiet_below (by kernel_rfl) (by kernel_rfl) ?_
    go_big_quiet_step (fail)
    go_big_quiet_step (fail)
    go_big_quiet_step (fail)
    go_big_quiet_step (fail)
    go_big_quiet_step (fail)
    go_big_quiet_step (fail)
    go_big_quiet_step (fail)
    go_big_quiet_step (fail)
    go_big_quiet_step (exact cM.re)
    go_big_quiet_step (fail)
    go_big_quiet_step (fail)
    go_big_quiet_step (fail)
    go_big_quiet_step (fail)
    go_big_quiet_step (fail)
    go_big_quiet_step (fail)
    go_big_quiet_step (fail)
    go_big_quiet_step (fail)
    go_big_quiet_step (fail)
    go_big_quiet_step (fail)
    go_big_quiet_step (fail)
    go_big_quiet_step (exact cN.re)
    go_big_quiet_step (fail)
    refine wpQuiet_nil ?_
    rintro _ ⟨p, rfl⟩
    have hb := below_regrown w4 p.d p.os
    generalize grow (redrawn w4 p.d) p.os = w5 at *
    clear Hra Hrt
    replace ra := keep hb ra
    replace rt := keep hb rt
    replace cM := cM.keep hb
    replace cN := cN.keep hb
    replace hw := Below.after hw hb
    clear hb
    clear cM cN
    by_cases hneg : n < 0
    · have hd1 : decide (n < 0) = true := decide_eq_true hneg
      go_wp2
      go_ret
      exact ⟨rfl, hw⟩
    · have hd1 : decide (n < 0) = false := decide_eq_false hneg
      by_cases hbig : (a.length : Int) ≤ n
      · have hd2 : decide ((a.length : Int) ≤ n) = true := decide_eq_true hbig
        go_wp2
        go_ret
        exact ⟨rfl, hw⟩
      · have hd2 : decide ((a.length : Int) ≤ n) = false := decide_eq_false hbig
        obtain ⟨k, rfl⟩ := Int.eq_ofNat_of_zero_le (show 0 ≤ n by omega)
        have hk : k < a.length := by omega
        have c1 := irow_cell rt (j := k) (by rw [List.length_append]; omega)
        have c2 := row_frozen rt k
        have eg : (a ++ mk4 80).getD k 0 = a.getD k 0 := getD_append_lt _ _ _ hk
        rw [eg] at c1
        have r2 := irow_set rt k (bits .xor .u8 (a.getD k 0) 16)
        rw [List.set_append_left _ _ hk] at r2
        have ra2 : (w5.setCell ⟨gt, k, none⟩ (.int .u8 (bits .xor .u8 (a.getD k 0) 16))).heap[w.heap.size]? = _ := heap_other ra (by omega)
        have hw2 := hw.setCell (show w.heap.size ≤ (⟨gt, k, none⟩ : Addr).block from (by show w.heap.size ≤ gt; omega)) (.int .u8 (bits .xor .u8 (a.getD k 0) 16))
        have hxz : ∀ z ∈ a.set k (bits .xor .u8 (a.getD k 0) 16), 0 ≤ z ∧ z < 256 := fun z hz => (List.mem_or_eq_of_mem_set hz).elim (hza z) (fun e => by rw [e]; exact bits8_bd' _ _ _)
        have hxl : (a.set k (bits .xor .u8 (a.getD k 0) 16)).length = a.length := List.length_set
        have hxn : a ≠ a.set k (bits .xor .u8 (a.getD k 0) 16) := fun e => by
          have h := congrArg (fun l => l.getD k 0) e
          simp only [getD_set_self a k _ hk] at h
          exact flip16 _ (getD_bd hza k) h.symm
        generalize a.set k (bits .xor .u8 (a.getD k 0) 16) = A2 at *
        clear rt ra hw eg
        generalize a.getD k 0 = z at *
        go_wp2_with (fail)
        have cM : GivesB (w5.setCell ⟨gt, k, none⟩ (.int .u8 (bits .xor .u8 z 16))) 5 #[.slice (some ⟨w.heap.size, 0, none⟩) a.length (a.length + 80), .slice (some ⟨gt, 0, none⟩) a.length (a.length + 80)] (.bool false) := fun W hW => by
          have p2 := Bys.of_prefix (keep hW r2) (by omega) hxz (a.length + 80)
          rw [hxl] at p2
          have h := a_same a A2 W _ _ (Bys.of_prefix (keep hW ra2) (by omega) hza (a.length + 80)) p2
          rw [decide_eq_false hxn] at h
          exact h
        replace hw := hw2
        clear hw2 r2 ra2 c1 c2
        generalize w5.setCell ⟨gt, k, none⟩ (.int .u8 (bits .xor .u8 z 16)) = w6 at *
        refine wp_region_quiet_below (by kernel_rfl) (by kernel_rfl) ?_
        go_big_quiet_step (fail)
        go_big_quiet_step (fail)
        go_big_quiet_step (fail)
        go_big_quiet_step (fail)
        go_big_quiet_step (fail)
        go_big_quiet_step (fail)
        go_big_quiet_step (fail)
        go_big_quiet_step (fail)
        go_big_quiet_step (exact cM.re)
        go_big_quiet_step (fail)
        go_big_quiet_step (fail)
        refine wpQuiet_nil ?_
        rintro _ ⟨p, rfl⟩
        have hb := below_regrown w6 p.d p.os
        generalize grow (redrawn w6 p.d) p.os = w7 at *
        replace cM := cM.keep hb
        replace hw := Below.after hw hb
        clear hb
        go_wp2
        go_ret
        exact ⟨rfl, hw⟩
  · clear key
    have Hra := keepr ra
    refine wp_region_quiet_below (by kernel_rfl) (by kernel_rfl) ?_
    go_big_quiet_step (fail)
    go_big_quiet_step (fail)
    go_big_quiet_step (fail)
    go_big_quiet_step (fail)
    go_big_quiet_step (fail)
    go_big_quiet_step (fail)
    go_big_quiet_step (fail)
    go_big_quiet_step (fail)
    go_big_quiet_step (exact cM.re)
    go_big_quiet_step (fail)
    go_big_quiet_step (fail)
    go_big_quiet_step (exact cS.re)
    go_big_quiet_step (fail)
    go_big_quiet_step (fail)
    go_big_quiet_step (fail)
    go_big_quiet_step (fail)
    go_big_quiet_step (exact cL1.re)
    go_big_quiet_step (fail)
    go_big_quiet_step (fail)
    go_big_quiet_step (fail)
    go_big_quiet_step (fail)
    go_big_quiet_step (fail)
    go_big_quiet_step (exact cL2.re)
    go_big_quiet_step (fail)
    go_big_quiet_step (fail)
    refine wpQuiet_nil ?_
    rintro _ ⟨p, rfl⟩
    have hb := below_regrown w2 p.d p.os
    generalize grow (redrawn w2 p.d) p.os = w3 at *
    clear Hra
    replace ra := keep hb ra
    replace cM := cM.keep hb
    replace cS := cS.keep hb
    replace cL1 := cL1.keep hb
    replace cL2 := cL2.keep hb
    replace hw := Below.after hw hb
    clear hb
    clear cM cS cL1 cL2
    go_wp2_with (fail)
    have lra := lt_of_row ra
    refine (l_hand a w3 _ (hA.1.keep hw) (by omega)).mono ?_
    rintro e_ w4 ⟨rfl, rt, hb⟩
    have lg3 := hw.size
    replace ra := keep hb ra
    replace hw := Below.after hw hb
    clear hb
    have l3 := lt_of_row rt
    have hne3 : w.heap.size < w3.heap.size := by omega
    generalize w3.heap.size = gt at *
    have mk1 : a ++ mk4 80 = (a ++ [100]) ++ (mk4 80).drop 1 := by
      rw [List.append_assoc]; rfl
    have hB1 : ∀ W, Below w4.heap.size w4 W → Bys W (.slice (some ⟨gt, 0, none⟩) (a.length + 1) (a.length + 80)) (a ++ [100]) := fun W hW => by
      have h := keep hW rt
      rw [mk1] at h
      have := Bys.of_prefix h (by simp; omega) (both_bd hza (by decide)) (a.length + 80)
      simpa using this
    have cM : GivesB w4 5 #[.slice (some ⟨w.heap.size, 0, none⟩) a.length (a.length + 80), .slice (some ⟨gt, 0, none⟩) a.length (a.length + 80)] (.bool true) := fun W hW => by
      have h := a_same a a W _ _ (Bys.of_prefix (keep hW ra) (by omega) hza (a.length + 80)) (Bys.of_prefix (keep hW rt) (by omega) hza (a.length + 80))
      rw [decide_eq_true rfl] at h
      exact h
    have cN : GivesB w4 5 #[.slice (some ⟨w.heap.size, 0, none⟩) a.length (a.length + 80), .slice (some ⟨gt, 0, none⟩) (a.length + 1) (a.length + 80)] (.bool false) := fun W hW => by
      have h := a_same a (a ++ [100]) W _ _ (Bys.of_prefix (keep hW ra) (by omega) hza (a.length + 80)) (hB1 W hW)
      rw [decide_eq_false (fun e => by have := congrArg List.length e; simp at this)] at h
      exact h
    clear hB1 mk1
    go_wp2_with (fail)
    have Hra := keepr ra
    have Hrt := keepr rt
    refine wp_region_quiet_below (by kernel_rfl) (by kernel_rfl) ?_
    go_big_quiet_step (fail)
    go_big_quiet_step (fail)
    go_big_quiet_step (fail)
    go_big_quiet_step (fail)
    go_big_quiet_step (fail)
    go_big_quiet_step (fail)
    go_big_quiet_step (fail)
    go_big_quiet_step (fail)
    go_big_quiet_step (exact cM.re)
    go_big_quiet_step (fail)
    go_big_quiet_step (fail)
    go_big_quiet_step (fail)
    go_big_quiet_step (fail)
    go_big_quiet_step (fail)
    go_big_quiet_step (fail)
    go_big_quiet_step (fail)
    go_big_quiet_step (fail)
    go_big_quiet_step (fail)
    go_big_quiet_step (fail)
    go_big_quiet_step (fail)
    go_big_quiet_step (exact cN.re)
    go_big_quiet_step (fail)
    refine wpQuiet_nil ?_
    rintro _ ⟨p, rfl⟩
    have hb := below_regrown w4 p.d p.os
    generalize grow (redrawn w4 p.d) p.os = w5 at *
    clear Hra Hrt
    replace ra := keep hb ra
    replace rt := keep hb rt
    replace cM := cM.keep hb
    replace cN := cN.keep hb
    replace hw := Below.after hw hb
    clear hb
    clear cM cN
    by_cases hneg : n < 0
    · have hd1 : decide (n < 0) = true := decide_eq_true hneg
      go_wp2
      go_ret
      exact ⟨rfl, hw⟩
    · have hd1 : decide (n < 0) = false := decide_eq_false hneg
      by_cases hbig : (a.length : Int) ≤ n
      · have hd2 : decide ((a.length : Int) ≤ n) = true := decide_eq_true hbig
        go_wp2
        go_ret
        exact ⟨rfl, hw⟩
      · have hd2 : decide ((a.length : Int) ≤ n) = false := decide_eq_false hbig
        obtain ⟨k, rfl⟩ := Int.eq_ofNat_of_zero_le (show 0 ≤ n by omega)
        have hk : k < a.length := by omega
        have c1 := irow_cell rt (j := k) (by rw [List.length_append]; omega)
        have c2 := row_frozen rt k
        have eg : (a ++ mk4 80).getD k 0 = a.getD k 0 := getD_append_lt _ _ _ hk
        rw [eg] at c1
        have r2 := irow_set rt k (bits .xor .u8 (a.getD k 0) 16)
        rw [List.set_append_left _ _ hk] at r2
        have ra2 : (w5.setCell ⟨gt, k, none⟩ (.int .u8 (bits .xor .u8 (a.getD k 0) 16))).heap[w.heap.size]? = _ := heap_other ra (by omega)
        have hw2 := hw.setCell (show w.heap.size ≤ (⟨gt, k, none⟩ : Addr).block from (by show w.heap.size ≤ gt; omega)) (.int .u8 (bits .xor .u8 (a.getD k 0) 16))
        have hxz : ∀ z ∈ a.set k (bits .xor .u8 (a.getD k 0) 16), 0 ≤ z ∧ z < 256 := fun z hz => (List.mem_or_eq_of_mem_set hz).elim (hza z) (fun e => by rw [e]; exact bits8_bd' _ _ _)
        have hxl : (a.set k (bits .xor .u8 (a.getD k 0) 16)).length = a.length := List.length_set
        have hxn : a ≠ a.set k (bits .xor .u8 (a.getD k 0) 16) := fun e => by
          have h := congrArg (fun l => l.getD k 0) e
          simp only [getD_set_self a k _ hk] at h
          exact flip16 _ (getD_bd hza k) h.symm
        generalize a.set k (bits .xor .u8 (a.getD k 0) 16) = A2 at *
        clear rt ra hw eg
        generalize a.getD k 0 = z at *
        go_wp2_with (fail)
        have cM : GivesB (w5.setCell ⟨gt, k, none⟩ (.int .u8 (bits .xor .u8 z 16))) 5 #[.slice (some ⟨w.heap.size, 0, none⟩) a.length (a.length + 80), .slice (some ⟨gt, 0, none⟩) a.length (a.length + 80)] (.bool false) := fun W hW => by
          have p2 := Bys.of_prefix (keep hW r2) (by omega) hxz (a.length + 80)
          rw [hxl] at p2
          have h := a_same a A2 W _ _ (Bys.of_prefix (keep hW ra2) (by omega) hza (a.length + 80)) p2
          rw [decide_eq_false hxn] at h
          exact h
        replace hw := hw2
        clear hw2 r2 ra2 c1 c2
        generalize w5.setCell ⟨gt, k, none⟩ (.int .u8 (bits .xor .u8 z 16)) = w6 at *
        refine wp_region_quiet_below (by kernel_rfl) (by kernel_rfl) ?_
        go_big_quiet_step (fail)
        go_big_quiet_step (fail)
        go_big_quiet_step (fail)
        go_big_quiet_step (fail)
        go_big_quiet_step (fail)
        go_big_quiet_step (fail)
        go_big_quiet_step (fail)
        go_big_quiet_step (fail)
        go_big_quiet_step (exact cM.re)
        go_big_quiet_step (fail)
        go_big_quiet_step (fail)
        refine wpQuiet_nil ?_
        rintro _ ⟨p, rfl⟩
        have hb := below_regrown w6 p.d p.os
        generalize grow (redrawn w6 p.d) p.os = w7 at *
        replace cM := cM.keep hb
        replace hw := Below.after hw hb
        clear hb
        go_wp2
        go_ret
        exact ⟨rfl, hw⟩

end Go.Proofs.Ytmcokphkaekdaab
