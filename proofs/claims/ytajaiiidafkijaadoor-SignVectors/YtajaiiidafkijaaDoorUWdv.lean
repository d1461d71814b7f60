import Derived.Test.YtajaiiidafkijaaDoorUWdb
import Derived.Test.YtajaiiidafkijaaDoorProg
import Derived.WalkKit
import Derived.WalkSpells
import Derived.WalkLawsBesides
import Derived.Lib.QuietBelow
import Derived.BigQuiet
import Derived.Test.YtajaiiidafkijaaDoorUKa
import Derived.OwnWalk
import Derived.Test.YtajaiiidafkijaaDoorUDsi
import Derived.Test.YtajaiiidafkijaaDoorUDwc
import Derived.Test.YtajaiiidafkijaaDoorUDwi
import Derived.Deep.Cut
namespace Go.Proofs.YtajaiiidafkijaaDoor.Wi
set_option maxRecDepth 100000
open Go Go.RowKit Go.Sort
/-! Blocks in a row; a hash under way. -/
def wat (bs : List Int) (q i : Nat) : Int := bs.getD (128 * q + i) 0
def chunk (bs : List Int) (k : Nat) : List Int := prq (wat bs k) 128
def fol (h bs : List Int) : Nat → List Int
 | 0 => h
 | k + 1 => blk (fol h bs k) (chunk bs k)
theorem fol_len {h : List Int} (hl : h.length = 8) (bs : List Int) : ∀ k, (fol h bs k).length = 8
 | 0 => hl
 | _ + 1 => blk_len _ _
theorem fol_bd {h : List Int} (hz : ∀ x ∈ h, 0 ≤ x ∧ x < 18446744073709551616) (bs : List Int) : ∀ k, ∀ x ∈ fol h bs k, 0 ≤ x ∧ x < 18446744073709551616
 | 0 => hz
 | _ + 1 => sums_bd _ _
theorem prq_congr {W V : Nat → Int} {t : Nat} (h : ∀ j, j < t → j < 128 → W j = V j) : prq W t = prq V t := by
 unfold prq
 apply List.map_congr_left
 intro j hj
 rw [List.mem_range] at hj
 by_cases e : j < t
 ·rw [if_pos e, if_pos e, h j e hj]
 ·rw [if_neg e, if_neg e]
theorem prq_bd {W : Nat → Int} (h : ∀ j, 0 ≤ W j ∧ W j < 256) (t : Nat) : ∀ z ∈ prq W t, 0 ≤ z ∧ z < 256 := by
 intro z hz
 simp only [prq, List.mem_map] at hz
 obtain ⟨j, _, rfl⟩ := hz
 split
 ·exact h j
 ·omega
theorem wat_bd {bs : List Int} (hz : ∀ z ∈ bs, 0 ≤ z ∧ z < 256) (q : Nat) : ∀ j, 0 ≤ wat bs q j ∧ wat bs q j < 256 := fun _ => getD_bd hz _
theorem getD_append_lt (a b : List Int) (j : Nat) (h : j < a.length) : (a ++ b).getD j 0 = a.getD j 0 := by
 rw [List.getD_eq_getElem?_getD, List.getD_eq_getElem?_getD, List.getElem?_append_left h]
theorem getD_append_ge (a b : List Int) (j : Nat) (h : a.length ≤ j) : (a ++ b).getD j 0 = b.getD (j - a.length) 0 := by
 rw [List.getD_eq_getElem?_getD, List.getD_eq_getElem?_getD, List.getElem?_append_right h]
theorem fol_append (h a b : List Int) : ∀ k, 128 * k ≤ a.length → fol h (a ++ b) k = fol h a k
 | 0, _ => rfl
 | k + 1, hk => by
  unfold fol
  rw [fol_append h a b k (by omega)]
  congr 1
  unfold chunk
  apply prq_congr
  intro j _ hj
  exact getD_append_lt a b _ (by omega)
theorem part_over (a c : List Int) (q r : Nat) (hr : a.length = 128 * q + r) (hc : r + c.length ≤ 128) : (prq (wat a q) r).take r ++ c ++ (prq (wat a q) r).drop (r + c.length) = prq (wat (a ++ c) q) (r + c.length) := by
 have hl := prq_len (wat a q) r
 apply List.ext_getElem?
 intro j
 by_cases h1 : j < r
 ·rw [List.append_assoc, List.getElem?_append_left (by simp; omega), List.getElem?_take_of_lt h1]
  simp only [prq, List.getElem?_map, List.getElem?_range (show j < 128 by omega), Option.map_some, if_pos h1, if_pos (show j < r + c.length by omega)]
  rw [wat, wat, getD_append_lt a c _ (by omega)]
 ·by_cases h2 : j < r + c.length
  ·rw [List.getElem?_append_left (by simp; omega), List.getElem?_append_right (by simp; omega)]
   have e : ((prq (wat a q) r).take r).length = r := by simp; omega
   rw [e]
   simp only [prq, List.getElem?_map, List.getElem?_range (show j < 128 by omega), Option.map_some, if_pos h2]
   rw [wat, getD_append_ge a c _ (by omega), List.getElem?_eq_getElem (by omega), List.getD_eq_getElem?_getD, show 128 * q + j - a.length = j - r by omega, List.getElem?_eq_getElem (by omega)]
   rfl
  ·rw [List.getElem?_append_right (by simp; omega), List.getElem?_drop]
   have e : r + c.length + (j - ((prq (wat a q) r).take r ++ c).length) = j := by simp; omega
   rw [e]
   by_cases hj : j < 128
   ·simp only [prq, List.getElem?_map, List.getElem?_range hj, Option.map_some, if_neg h1, if_neg h2]
   ·rw [List.getElem?_eq_none (by omega), List.getElem?_eq_none (by rw [prq_len]; omega)]
def hcells (ws ps : List Int) (sz : Int) : Array Value := (ws.map (Value.int .u64) ++ (ps.map (Value.int .u8) ++ [Value.int .u64 sz])).toArray
def hwords (bs : List Int) : List Int := fol sl bs (bs.length / 128)
def hpart (bs : List Int) : List Int := prq (wat bs (bs.length / 128)) (bs.length % 128)
def hst (bs : List Int) : Array Value := hcells (hwords bs) (hpart bs) (bs.length : Int)
theorem hwords_len (bs : List Int) : (hwords bs).length = 8 := fol_len rfl _ _
theorem hpart_len (bs : List Int) : (hpart bs).length = 128 := prq_len _ _
theorem sl_bd : ∀ x ∈ sl, 0 ≤ x ∧ x < 18446744073709551616 := by decide
theorem hst_less (a c : List Int) (h : a.length % 128 + c.length < 128) : hst (a ++ c) = hcells (hwords a) (prq (wat (a ++ c) (a.length / 128)) (a.length % 128 + c.length)) ((a.length : Int) + c.length) := by
 have e1 : (a ++ c).length / 128 = a.length / 128 := by rw [List.length_append]; omega
 have e2 : (a ++ c).length % 128 = a.length % 128 + c.length := by rw [List.length_append]; omega
 unfold hst hwords hpart
 rw [e1, e2, fol_append _ _ _ _ (by omega), List.length_append]
 rfl
theorem hst_full (a c : List Int) (h : a.length % 128 + c.length = 128) : hst (a ++ c) = hcells (blk (hwords a) (prq (wat (a ++ c) (a.length / 128)) 128)) (zr 128) ((a.length : Int) + c.length) := by
 have e1 : (a ++ c).length / 128 = a.length / 128 + 1 := by rw [List.length_append]; omega
 have e2 : (a ++ c).length % 128 = 0 := by rw [List.length_append]; omega
 unfold hst hwords hpart
 rw [e1, e2, fol, fol_append _ _ _ _ (by omega), List.length_append, prq_zero]
 rfl
theorem hcells_size (ws ps : List Int) (sz : Int) (h1 : ws.length = 8) (h2 : ps.length = 128) : (hcells ws ps sz).size = 137 := by simp [hcells, h1, h2]
theorem hcells_words (ws ps : List Int) (sz : Int) (h1 : ws.length = 8) : (hcells ws ps sz).extract 0 (0 + 8) = irow .u64 ws := by
 apply Array.ext'
 simp [hcells, irow, h1]
theorem hcells_part (ws ps : List Int) (sz : Int) (h1 : ws.length = 8) (h2 : ps.length = 128) : (hcells ws ps sz).extract 8 (8 + 128) = irow .u8 ps := by
 apply Array.ext'
 simp [hcells, irow, h1, h2]
theorem hcells_at (ws ps : List Int) (sz : Int) (h1 : ws.length = 8) (h2 : ps.length = 128) : (hcells ws ps sz)[136]? = some (.int .u64 sz) := by
 simp [hcells, h1, h2]
theorem hcells_setsz (ws ps : List Int) (sz z : Int) (h1 : ws.length = 8) (h2 : ps.length = 128) : (hcells ws ps sz).setIfInBounds 136 (.int .u64 z) = hcells ws ps z := by
 apply Array.ext'
 simp [hcells, h1, h2]
theorem hcells_copy (ws ps c : List Int) (sz : Int) (o : Nat) (h1 : ws.length = 8) (h2 : ps.length = 128) (hc : o + c.length ≤ 128) : ((hcells ws ps sz).toList.take (8 + o) ++ c.map (Value.int .u8) ++ (hcells ws ps sz).toList.drop (8 + o + (c.map (Value.int .u8)).length)).toArray = hcells ws (ps.take o ++ c ++ ps.drop (o + c.length)) sz := by
 apply Array.ext'
 have e1 : 8 + o - ws.length = o := by omega
 have e2 : 8 + o + c.length - ws.length = o + c.length := by omega
 simp only [hcells, List.length_map, List.take_append, List.drop_append, h1, h2, List.map_append, List.map_take, List.map_drop]
 rw [List.take_of_length_le (show (ws.map (Value.int .u64)).length ≤ 8 + o by simp; omega), List.drop_eq_nil_of_le (show (ws.map (Value.int .u64)).length ≤ 8 + o + c.length by simp; omega), show 8 + o - 8 = o by omega, show 8 + o + c.length - 8 = o + c.length by omega, show o - 128 = 0 by omega, show o + c.length - 128 = 0 by omega]
 simp [List.append_assoc]
theorem ovw_list : ∀ (vs : List Value) (cs : Array Value) (o : Nat), o + vs.length ≤ cs.size → (ovw cs o vs).toList = cs.toList.take o ++ vs ++ cs.toList.drop (o + vs.length)
 | [], cs, o, _ => by simp [ovw]
 | v :: r, cs, o, h => by
  have h' : o < cs.toList.length := by simp at h ⊢; omega
  rw [ovw, ovw_list r _ _ (by simp at h ⊢; omega), Array.toList_setIfInBounds, List.set_eq_take_append_cons_drop, if_pos h']
  have e : (cs.toList.take o).length = o := by rw [List.length_take]; omega
  rw [List.take_append, List.drop_append, e, List.take_take, show min (o + 1) o = o by omega, show o + 1 - o = 1 by omega, List.drop_eq_nil_of_le (show (cs.toList.take o).length ≤ o + 1 + r.length by omega), show o + 1 + r.length - o = r.length + 1 by omega, List.drop_succ_cons, List.drop_drop, List.length_cons, show o + 1 + r.length = o + (r.length + 1) by omega]
  simp
theorem hcells_setwords (ws vs ps : List Int) (sz : Int) (h1 : ws.length = 8) (h2 : ps.length = 128) (h3 : vs.length = 8) : ovw (hcells ws ps sz) 0 (irow .u64 vs).toList = hcells vs ps sz := by
 apply Array.ext'
 rw [ovw_list _ _ _ (by rw [hcells_size _ _ _ h1 h2]; simp [irow, h3])]
 simp [hcells, irow, h1, h3]
theorem hcells_setpart (ws ps qs : List Int) (sz : Int) (h1 : ws.length = 8) (h2 : ps.length = 128) (h3 : qs.length = 128) : ovw (hcells ws ps sz) 8 (irow .u8 qs).toList = hcells ws qs sz := by
 apply Array.ext'
 rw [ovw_list _ _ _ (by rw [hcells_size _ _ _ h1 h2]; simp [irow, h3])]
 simp only [hcells, irow, h1, h3, List.length_map, List.take_append, List.take_of_length_le (show (ws.map (Value.int .u64)).length ≤ 8 by simp; omega)]
 rw [show 8 - 8 = 0 from rfl, List.take_zero, ← List.append_assoc (ws.map (Value.int .u64)) (ps.map (Value.int .u8)), List.drop_left' (by simp; omega)]
 simp
theorem hcells_one (ws ps : List Int) (sz : Int) : (hcells ws ps sz).all (·.oneCell') = true := by
 simp only [hcells, List.all_toArray, List.all_append, List.all_map, Bool.and_eq_true, List.all_eq_true, List.all_cons, List.all_nil]
 exact ⟨fun _ _ => rfl, fun _ _ => rfl, rfl, trivial⟩
end Go.Proofs.YtajaiiidafkijaaDoor.Wi
namespace Go.Proofs.YtajaiiidafkijaaDoor.Wi
open Go Go.RowKit Go.Sort
attribute [local go_sem] setCell_drewN alloc_drewN
end Go.Proofs.YtajaiiidafkijaaDoor.Wi
namespace Go.Proofs.YtajaiiidafkijaaDoor.Wi
open Go Go.RowKit Go.Sort
attribute [local go_sem] setCell_drewN alloc_drewN
end Go.Proofs.YtajaiiidafkijaaDoor.Wi
namespace Go.Proofs.YtajaiiidafkijaaDoor.Wi
open Go Go.RowKit Go.Sort
attribute [local go_sem] setCell_drewN alloc_drewN
def slen : Value → Nat
 | .slice _ l _ => l
 | _ => 0
theorem slen_own {W : World} {b : Nat} {T : TypeId} {sz : Nat} {v : Value} {n : Nat} {xs : List Value} (h : W.ownsRow b T sz v n xs) : ∃ ao cap, v = .slice ao n cap := by
 obtain ⟨_, ⟨rfl, rfl⟩ | ⟨g, cap, cur, rfl, _⟩⟩ := h
 ·exact ⟨_, _, rfl⟩
 ·exact ⟨_, _, rfl⟩
set_option maxRecDepth 100000 in
theorem info8 : ∃ i, Tryd.prog.info? 5 = some i ∧ i.zero = some (.int .u8 0) ∧ i.size = 1 ∧ i.bytes = 1 := ⟨_, rfl, rfl, rfl, rfl⟩
theorem new_cell (wr : World) (x : Int) : ∀ j u, [Value.int .u8 x][j]? = some u → (wr.alloc (.cells #[.int .u8 x] 5)).cell? ((⟨wr.heap.size, 0, none⟩ : Addr).add j) = some u := by
 intro j u hu
 have hj : j = 0 := by
  have := (List.getElem?_eq_some_iff.1 hu).1
  simp at this
  exact this
 subst hj
 simp at hu
 subst hu
 rw [addr_add]
 have hg : (wr.alloc (.cells #[.int .u8 x] 5)).heap[wr.heap.size]? = some (.cells #[.int .u8 x] 5 (0, 0)) := hp1_0 wr _
 simp only [World.cell?, hg]
 rfl
end Go.Proofs.YtajaiiidafkijaaDoor.Wi
namespace Go.Proofs.YtajaiiidafkijaaDoor.Wi
set_option maxRecDepth 100000
open Go Go.RowKit Go.Sort
attribute [local go_sem] setCell_drewN alloc_drewN
end Go.Proofs.YtajaiiidafkijaaDoor.Wi
namespace Go.Proofs.YtajaiiidafkijaaDoor.Wi
set_option maxRecDepth 100000
open Go Go.RowKit Go.Sort
attribute [local go_sem] setCell_drewN alloc_drewN
def sumW (bs : List Int) : List Int := fol sl (bs ++ padL bs.length) ((bs ++ padL bs.length).length / 128)
def sumL (bs : List Int) : List Int := byts (sumW bs)
theorem sumW_len (bs : List Int) : (sumW bs).length = 8 := fol_len rfl _ _
theorem sumW_bd (bs : List Int) : ∀ x ∈ sumW bs, 0 ≤ x ∧ x < 18446744073709551616 := fol_bd sl_bd _ _
theorem sumL_len (bs : List Int) : (sumL bs).length = 64 := byts_len _
theorem padL_len (n : Nat) : (padL n).length = plen n := padP_len n 8
theorem Bys.of_own {W : World} {b n : Nat} {v : Value} {l : List Int} (h : W.ownsRow b 5 1 v n (l.map (Value.int .u8))) (hl : l.length ≤ 9223372036854775807) (hz : ∀ z ∈ l, 0 ≤ z ∧ z < 256) : Bys W v l := by
 obtain ⟨h1, ⟨rfl, rfl⟩ | ⟨g, cap, cur, rfl, hb, hg, hn, hm, hs, ht⟩⟩ := h
 ·have : l = [] := List.eq_nil_of_length_eq_zero (by simpa using h1)
  subst this
  exact ⟨none, 0, rfl, by decide, fun j hj => by simp at hj, by simp⟩
 ·have hln : l.length = n := by simpa using h1
  refine ⟨_, cap, by rw [hln], hl, fun j hj => ⟨g, 0, rfl, lt_of_row hg, ?_⟩, hz⟩
  rw [Nat.zero_add, cell_of_row _ _ _ _ _ _ hg]
  have h2 := congrArg (fun q => q[j]?) ht
  simp only [Nat.mul_one] at h2
  rw [List.getElem?_take_of_lt (by omega), List.getElem?_map, List.getElem?_eq_getElem hj] at h2
  rw [← Array.getElem?_toList, h2, List.getD_eq_getElem?_getD, List.getElem?_eq_getElem hj]
  rfl
theorem own_keep {W W' : World} {b n : Nat} {T : TypeId} {v : Value} {xs : List Value} (h : W.ownsRow b T 1 v n xs) (hb : Below W.heap.size W W') : W'.ownsRow b T 1 v n xs := by
 obtain ⟨h1, h2 | ⟨g, cap, cur, rfl, hb2, hg, h3⟩⟩ := h
 ·exact ⟨h1, .inl h2⟩
 ·exact ⟨h1, .inr ⟨g, cap, cur, rfl, hb2, keep hb hg, h3⟩⟩
theorem both_bd {a b : List Int} (ha : ∀ z ∈ a, 0 ≤ z ∧ z < 256) (hb : ∀ z ∈ b, 0 ≤ z ∧ z < 256) : ∀ z ∈ a ++ b, 0 ≤ z ∧ z < 256 := fun z hz => (List.mem_append.1 hz).elim (ha z) (hb z)
end Go.Proofs.YtajaiiidafkijaaDoor.Wi
namespace Go.Proofs.YtajaiiidafkijaaDoor.Wi
open Go Go.RowKit Go.Sort
attribute [local go_sem] setCell_drewN alloc_drewN
theorem grown_setCell {a b : World} {g j : Nat} {v : Value} (h : a.grownBy b (some g)) : a.grownBy (b.setCell ⟨g, j, none⟩ v) (some g) := by
 refine ⟨h.os, h.tape, h.output, ?_, fun k hk hn => ?_⟩
 ·have e : (b.setCell ⟨g, j, none⟩ v).heap.size = b.heap.size := by simp [World.setCell]
  rw [e]; exact h.size
 ·rw [heap_setCell_other b ⟨g, j, none⟩ k v (fun e => hn (by rw [e]))]
  exact h.block k hk hn
end Go.Proofs.YtajaiiidafkijaaDoor.Wi
namespace Go.Proofs.YtajaiiidafkijaaDoor.Wi
set_option maxRecDepth 100000
open Go Go.RowKit Go.Sort
attribute [local go_sem] setCell_drewN alloc_drewN
theorem cell_of {W : World} {g : Nat} {cs : Array Value} {t : TypeId} (hg : W.heap[g]? = some (.cells cs t (0, 0))) {j : Nat} {v : Value} (h : cs[j]? = some v) : W.cell? ⟨g, j, none⟩ = some v := by
 rw [cell_of_row _ _ _ _ _ _ hg]; exact h
theorem blk_lt {w : World} {b o : Nat} {v : Value} (h : w.cell? ⟨b, o, none⟩ = some v) : b < w.heap.size := by
 rcases Nat.lt_or_ge b w.heap.size with q | q
 ·exact q
 ·simp [World.cell?, Array.getElem?_eq_none q] at h
theorem grown_below {a b c : World} {g : Nat} (h : a.grownBy b (some g)) (hb : Below b.heap.size b c) : a.grownBy c (some g) :=
 ⟨hb.os.trans h.os, hb.tape.trans h.tape, hb.output.trans h.output, Nat.le_trans h.size hb.size, fun k hk hn => (hb.block k (Nat.lt_of_lt_of_le hk h.size)).trans (h.block k hk hn)⟩
theorem grown_setRow {a b : World} {g : Nat} (cs : Array Value) (h : a.grownBy b (some g)) : a.grownBy (b.setRow g cs) (some g) := by
 refine ⟨h.os, h.tape, h.output, ?_, fun k hk hn => ?_⟩
 ·have e : (b.setRow g cs).heap.size = b.heap.size := by simp
  rw [e]; exact h.size
 ·rw [setRow_other b g k cs (fun e => hn (by rw [e]))]
  exact h.block k hk hn
theorem slice_part (g r : Nat) (hr : r < 128) (W : World) : (Instr.sliceAt 137 (.pointer (some ⟨g, 8, none⟩)) (some (.int .u64 (r : Int))) none none).run Tryd.prog W = .ok (.slice (some ⟨g, 8 + r, none⟩) (128 - r) (128 - r)) W := by
 have ht : Tryd.prog.underlying 137 = some (.array (Tryd.prog.arrayLen 137) (Tryd.prog.elem 137)) := by kernel_rfl
 have hn : Tryd.prog.arrayLen 137 = 128 := by kernel_rfl
 have hs : (sizeOf (Tryd.prog.elem 137)).run Tryd.prog W = .ok 1 W := by kernel_rfl
 rw [run_sliceAt_array_l W _ _ ht .u64 _ (by omega) (by rw [hn]; omega), hs]
 show Result.ok (slicedAt _ _ _ _ 1) W = _
 rw [Int.toNat_natCast, hn, slicedAt, if_neg (by omega), addr_add]
 simp
theorem elem8 : Tryd.prog.underlying 22 = some (.slice (Tryd.prog.elem 22)) := by kernel_rfl
theorem size8 (W : World) : (sizeOf (Tryd.prog.elem 22)).run Tryd.prog W = .ok 1 W := by kernel_rfl
theorem slice_first (ad : Addr) (m c n : Nat) (h : n ≤ c) (W : World) : (Instr.sliceAt 22 (.slice (some ad) m c) none (some (.int .i64 (n : Int))) (some (.int .i64 (n : Int)))).run Tryd.prog W = .ok (.slice (some (if n = 0 then ad else ad.add 0)) n n) W := by
 rw [run_sliceAt_slice _ _ _ _ _ _ elem8, run_slice_hm W 22 (some ad) m c elem8 .i64 .i64 _ _ (by omega) (Int.le_refl _) (by omega), size8]
 show Result.ok (sliced _ _ _ _ 1) W = _
 rw [Int.toNat_natCast, sliced, Nat.zero_mul]
 by_cases e : n = 0
 ·rw [if_pos e, if_pos e]; rfl
 ·rw [if_neg e, if_neg e]; rfl
theorem slice_rest (b0 o m c n : Nat) (h : n ≤ m) (hc : m ≤ c) : ∃ ao2 : Option Addr, (n < m → ao2 = some ⟨b0, o + n, none⟩) ∧ ∀ W, (Instr.sliceAt 22 (.slice (some ⟨b0, o, none⟩) m c) (some (.int .i64 (n : Int))) none none).run Tryd.prog W = .ok (.slice ao2 (m - n) (c - n)) W := by
 refine ⟨if c = n then some ⟨b0, o, none⟩ else some ⟨b0, o + n, none⟩, fun hn => if_neg (by omega), fun W => ?_⟩
 rw [run_sliceAt_slice _ _ _ _ _ _ elem8, run_slice_l W 22 (some ⟨b0, o, none⟩) m c elem8 .i64 _ (by omega) (by omega), size8]
 show Result.ok (sliced _ _ _ _ 1) W = _
 rw [Int.toNat_natCast, sliced, Nat.mul_one, Option.map_some, addr_add]
theorem zbuilt : Tryd.prog.built 137 [] = some (irow .u8 (zr 128)) := by kernel_rfl
theorem copy_part {W : World} {g r b0 o n : Nat} {ws ps c : List Int} {sz : Int} (hg : W.heap[g]? = some (.cells (hcells ws ps sz) 139 (0, 0))) (h1 : ws.length = 8) (h2 : ps.length = 128) (hc : ∀ j, j < c.length → W.cell? ⟨b0, o + j, none⟩ = some (.int .u8 (c.getD j 0))) (hn : c.length = n) (hr : r + n ≤ 128) :
 (Builtin.copy_ #[22, 22] 3 #[.slice (some ⟨g, 8 + r, none⟩) (128 - r) (128 - r), .slice (some ⟨b0, o, none⟩) n n]).run Tryd.prog W = .ok (goInt n) (W.setRow g (hcells ws (ps.take r ++ c ++ ps.drop (r + n)) sz)) := by
 have hsrc : ∀ j u, (c.map (Value.int .u8))[j]? = some u → W.cell? ((⟨b0, o, none⟩ : Addr).add j) = some u := by
  intro j u hu
  have hj : j < c.length := by have := (List.getElem?_eq_some_iff.1 hu).1; simpa using this
  have : u = .int .u8 (c.getD j 0) := by
   simp only [List.getElem?_map, List.getElem?_eq_getElem hj, Option.map_some, Option.some.injEq] at hu
   rw [← hu, List.getD_eq_getElem?_getD, List.getElem?_eq_getElem hj]; rfl
  rw [this, addr_add]
  exact hc j hj
 have hrun := run_copy_row (P := Tryd.prog) W 22 22 3 5 g (8 + r) (128 - r) (128 - r) ⟨b0, o, none⟩ n n (hcells ws ps sz) 139 (c.map (Value.int .u8)) Tryd.underlying22 (by kernel_rfl) hg (by rw [List.length_map, hn]; exact (Nat.min_eq_left (by omega)).symm) hsrc (by rw [hcells_size _ _ _ h1 h2, List.length_map]; omega) (ints_one .u8 c)
 rw [hcells_copy ws ps c sz r h1 h2 (by omega), List.length_map, hn] at hrun
 exact hrun
set_option maxRecDepth 100000 in
set_option maxHeartbeats 8000000 in
theorem a_write (bs b : List Int) (g : Nat) (w : World) (v : Value) (hH : w.heap[g]? = some (.cells (hst bs) 139 (0, 0))) (hB : Bys w v b) (hne : ∀ a l c, v = .slice (some a) l c → 0 < l → a.block ≠ g) (hcap : ∀ a l c, v = .slice a l c → l ≤ c) (hzb : ∀ z ∈ bs, 0 ≤ z ∧ z < 256) (hlim : bs.length + b.length ≤ 4611686018427387904) :
 Calls Tryd.prog 64 #[.pointer (some ⟨g, 0, none⟩), v] w fun e w' => e = .returned (.tuple #[]) ∧ w'.heap[g]? = some (.cells (hst (bs ++ b)) 139 (0, 0)) ∧ w.grownBy w' (some g) := by
 obtain ⟨ao, cap, rfl, hl63, hc, hz⟩ := hB
 replace hcap := hcap _ _ _ rfl
 generalize elen : b.length = len at *
 have hgl := lt_of_row hH
 go_enter Tryd.func64, Tryd.ntmps64
 go_wp2_with (fail)
 go_loopw [1] (fun x wr => ∃ (k : Nat) (ao' : Option Addr), k ≤ len ∧ x = .slice ao' (len - k) (cap - k) ∧ (k < len → ∃ b0 off, ao = some ⟨b0, off, none⟩ ∧ ao' = some ⟨b0, off + k, none⟩) ∧ wr.heap[g]? = some (.cells (hst (bs ++ b.take k)) 139 (0, 0)) ∧ w.grownBy wr (some g)) (fun x _ => slen x)
 case atStart =>
  refine ⟨0, ao, by omega, rfl, fun h => ?_, by simpa using hH, World.grownBy.refl _ _⟩
  obtain ⟨b0, off, e, _⟩ := hc 0 h
  exact ⟨b0, off, e, e⟩
 case round =>
  obtain ⟨k, ao', hk, rfl, hadr, rH, hw⟩ := hrel
  by_cases hlt : k < len
  ·obtain ⟨b0, off, rfl, rfl⟩ := hadr hlt
   have hb0 := hne _ _ _ rfl (by omega)
   replace hb0 : b0 ≠ g := hb0
   have hcell : ∀ j, j < len → wr.cell? ⟨b0, off + j, none⟩ = some (.int .u8 (b.getD j 0)) := fun j hj => by
    obtain ⟨b1, o1, e, hb1, hb2⟩ := hc j hj
    cases e
    exact hw.cell hb2 (by intro e; injection e with e; exact hb0 e)
   have hal : (bs ++ b.take k).length = bs.length + k := by rw [List.length_append, List.length_take]; omega
   have hab : ∀ z ∈ bs ++ b.take k, 0 ≤ z ∧ z < 256 := both_bd hzb (fun z h => hz z (List.mem_of_mem_take h))
   have hnx : ∀ n, bs ++ b.take (k + n) = bs ++ b.take k ++ (b.drop k).take n := fun n => by rw [List.append_assoc, ← List.take_add]
   have hgl2 := lt_of_row rH
   clear hadr hne hc hH hzb
   generalize bs ++ b.take k = a at *
   have hw8 := hwords_len a
   have hp64 := hpart_len a
   have hless := hst_less a
   have hfull := hst_full a
   have hwat := wat_bd (bs := a)
   have hover := fun c => part_over a c (a.length / 128) (a.length % 128) (by omega)
   rw [show prq (wat a (a.length / 128)) (a.length % 128) = hpart a from rfl] at hover
   rw [hst] at rH
   have csz := cell_of rH (hcells_at _ _ _ hw8 hp64)
   generalize eA : a.length = A at *
   obtain ⟨r, er⟩ : ∃ r : Nat, r = A % 128 := ⟨_, rfl⟩
   have hr : r < 128 := by omega
   have eri : (A : Int) % 128 = (r : Int) := by omega
   rw [← er] at hover hless hfull
   generalize A / 128 = q at *
   generalize hwords a = ws at *
   generalize hpart a = ps at *
   obtain ⟨m, em⟩ : ∃ m : Nat, m = len - k := ⟨_, rfl⟩
   rw [← em]
   have hm : 0 < m := by omega
   obtain ⟨C, eC⟩ : ∃ C : Nat, C = cap - k := ⟨_, rfl⟩
   rw [← eC]
   have hmC : m ≤ C := by omega
   have hAl : A ≤ 4611686018427387904 := by omega
   have hAm : A + m ≤ 4611686018427387904 := by omega
   clear hwat
   -- how many bytes the block takes up
   obtain ⟨n, hn1, hnm, hn64, hdec⟩ : ∃ n : Nat, 0 < n ∧ n ≤ m ∧ r + n ≤ 128 ∧ ((n = m ∧ m < 128 - r) ∨ (n = 128 - r ∧ 128 - r ≤ m)) := by
    by_cases h : m < 128 - r
    ·exact ⟨m, hm, Nat.le_refl _, by omega, .inl ⟨rfl, h⟩⟩
    ·exact ⟨128 - r, by omega, by omega, by omega, .inr ⟨rfl, by omega⟩⟩
   have hcl : ((b.drop k).take n).length = n := by rw [List.length_take, List.length_drop]; omega
   have hcs : ∀ j, j < ((b.drop k).take n).length → wr.cell? ⟨b0, off + k + j, none⟩ = some (.int .u8 (((b.drop k).take n).getD j 0)) := fun j hj => by
    rw [hcl] at hj
    have := hcell (k + j) (by omega)
    rw [← Nat.add_assoc] at this
    rw [this, List.getD_eq_getElem?_getD, List.getD_eq_getElem?_getD, List.getElem?_take_of_lt hj, List.getElem?_drop]
   have hnx' := hnx n
   have hov := hover ((b.drop k).take n) (by rw [hcl]; exact hn64)
   have hls := hless ((b.drop k).take n)
   have hfl := hfull ((b.drop k).take n)
   have hcb : ∀ z ∈ a ++ (b.drop k).take n, 0 ≤ z ∧ z < 256 := both_bd hab (fun z h => hz z (List.mem_of_mem_drop (List.mem_of_mem_take h)))
   have hpo := prq_bd (wat_bd hcb q) 128
   rw [hcl] at hov hls hfl
   clear hover hless hfull hnx hcell hcb hab hz
   generalize (b.drop k).take n = c at *
   generalize eo : off + k = o at *
   replace eo := hide eo
   have sl1 := slice_part g r hr
   have sl2 := slice_first ⟨b0, o, none⟩ m C n (by omega)
   rw [if_neg (show ¬ n = 0 by omega), addr_add, Nat.add_zero] at sl2
   obtain ⟨ao2, hao2, sl3⟩ := slice_rest b0 o m C n hnm hmC
   have hpl : (ps.take r ++ c ++ ps.drop (r + n)).length = 128 := by rw [hov, prq_len]
   have hcp := fun (W : World) (rW : W.heap[g]? = some (.cells (hcells ws ps (A : Int)) 139 (0, 0))) hcW => copy_part (W := W) (r := r) (b0 := b0) (o := o) (c := c) rW hw8 hp64 hcW hcl hn64
   rw [hov] at hpl
   simp only [hov] at hcp
   replace hov := hide hov
   replace hnx' := hide hnx'
   replace hls := hide hls
   replace hfl := hide hfl
   replace hpo := hide hpo
   have hAn : (A : Int) + (n : Int) < 18446744073709551616 := by omega
   rcases hdec with ⟨hE, hE2⟩ | ⟨hE, hE2⟩
   ·have e64 : ¬ ((128 : Int) - (r : Int) ≤ (m : Int)) := by omega
    have hmod : (((A : Int) + (n : Int)) % 128 == 0) = false := by rw [beq_eq_false_iff_ne]; omega
    clear er hal hlim hl63
    replace em := hide em
    replace eC := hide eC
    replace elen := hide elen
    subst hE
    go_wp2
    refine wp_region_alloc_ex 9 9 [] (fun _ => .cells #[] 0 (0, 0)) (by kernel_rfl) (by decide) (by decide) (by kernel_rfl) (by kernel_rfl) (by kernel_rfl) (by kernel_rfl) (by kernel_rfl) (by kernel_rfl) (by kernel_rfl) (by kernel_rfl) (by decide) (by decide) ?_ ?_
    ·intro s l u
     omega
    apply Exists.intro
    constructor
    ·intro v_ hb
     clear hb; dsimp only [List.take]
     go_big_quiet_step (fail)
     go_big_quiet_step (fail)
     go_big_quiet_step (fail)
     go_big_quiet_step (fail)
     go_big_quiet_step (fail)
     go_big_quiet_step (fail)
     go_big_quiet_step (fail)
     go_big_quiet_step (fail)
     go_big_quiet_step (fail)
     refine wpQuiet_nil ?_
     rfl
    intro w1 g_ hb _ _
    simp only [List.drop, puts, ptrs, List.map, List.foldl, Act.put]
    have hcs1 : ∀ j, j < c.length → w1.cell? ⟨b0, o + j, none⟩ = some (.int .u8 (c.getD j 0)) := fun j hj => (hb.cell (p := ⟨b0, o + j, none⟩) (blk_lt (hcs j hj))).trans (hcs j hj)
    have rH1 := keep hb rH
    have hcopy := hcp w1 rH1 hcs1
    replace hw := grown_setRow (hcells ws (prq (wat (a ++ c) q) (r + n)) (A : Int)) (grown_below hw hb)
    have r2 := setRow_heap w1 g _ (hcells ws (prq (wat (a ++ c) q) (r + n)) (A : Int)) _ _ rH1
    have csz2 := cell_of r2 (hcells_at _ _ _ hw8 hpl)
    have hf2 := row_frozen r2 136
    have r3 := heap_setCell_same _ g 136 _ _ (.int .u64 ((A : Int) + (n : Int))) r2
    rw [hcells_setsz _ _ _ _ hw8 hpl] at r3
    replace hw := grown_setCell (j := 136) (v := .int .u64 ((A : Int) + (n : Int))) hw
    clear hcp hcs hcs1 rH rH1 csz hb sl1 sl2
    generalize w1.setRow g (hcells ws (prq (wat (a ++ c) q) (r + n)) (A : Int)) = w2 at *
    go_wp2
    refine ⟨⟨k + n, ao2, by have := em.out; omega, by have e1 := em.out; have e2 := eC.out; rw [show len - (k + n) = 0 by omega, show cap - (k + n) = C - n by omega], fun h => by have e1 := em.out; omega, by rw [hnx'.out, hls.out (by omega)]; exact r3, hw⟩, ?_⟩
    simp [slen]; omega
   ·have h64 : r + n = 128 := by omega
    have e64 : (128 : Int) - (r : Int) ≤ (m : Int) := by omega
    have hmod : (((A : Int) + (n : Int)) % 128 == 0) = true := by rw [beq_iff_eq]; omega
    rw [h64] at hpl
    simp only [h64] at hcp
    have en : (128 : Int) - (r : Int) = (n : Int) := by omega
    replace h64 := hide h64
    replace hE := hide hE
    clear er hal hlim hl63
    replace em := hide em
    replace eC := hide eC
    replace elen := hide elen
    go_wp2
    refine wp_region_alloc_ex 9 9 [] (fun _ => .cells #[] 0 (0, 0)) (by kernel_rfl) (by decide) (by decide) (by kernel_rfl) (by kernel_rfl) (by kernel_rfl) (by kernel_rfl) (by kernel_rfl) (by kernel_rfl) (by kernel_rfl) (by kernel_rfl) (by decide) (by decide) ?_ ?_
    ·intro s l u
     omega
    apply Exists.intro
    constructor
    ·intro v_ hb
     clear hb; dsimp only [List.take]
     go_big_quiet_step (fail)
     go_big_quiet_step (fail)
     go_big_quiet_step (fail)
     go_big_quiet_step (fail)
     go_big_quiet_step (fail)
     go_big_quiet_step (fail)
     go_big_quiet_step (fail)
     go_big_quiet_step (fail)
     go_big_quiet_step (fail)
     refine wpQuiet_nil ?_
     rfl
    intro w1 g_ hb _ _
    simp only [List.drop, puts, ptrs, List.map, List.foldl, Act.put]
    have hcs1 : ∀ j, j < c.length → w1.cell? ⟨b0, o + j, none⟩ = some (.int .u8 (c.getD j 0)) := fun j hj => (hb.cell (p := ⟨b0, o + j, none⟩) (blk_lt (hcs j hj))).trans (hcs j hj)
    have rH1 := keep hb rH
    have hcopy := hcp w1 rH1 hcs1
    replace hw := grown_setRow (hcells ws (prq (wat (a ++ c) q) 128) (A : Int)) (grown_below hw hb)
    have r2 := setRow_heap w1 g _ (hcells ws (prq (wat (a ++ c) q) 128) (A : Int)) _ _ rH1
    have csz2 := cell_of r2 (hcells_at _ _ _ hw8 hpl)
    have hf2 := row_frozen r2 136
    have r3 := heap_setCell_same _ g 136 _ _ (.int .u64 ((A : Int) + (n : Int))) r2
    rw [hcells_setsz _ _ _ _ hw8 hpl] at r3
    replace hw := grown_setCell (j := 136) (v := .int .u64 ((A : Int) + (n : Int))) hw
    clear hcp hcs hcs1 rH rH1 csz hb sl1 sl2
    generalize w1.setRow g (hcells ws (prq (wat (a ++ c) q) 128) (A : Int)) = w2 at *
    go_wp2
    have cB := a_block ws (prq (wat (a ++ c) q) 128) hw8 hpl hpo.out
    have hbl := blk_len ws (prq (wat (a ++ c) q) 128)
    have hres := hfl.out h64.out
    generalize w2.setCell ⟨g, 136, none⟩ (.int .u64 ((A : Int) + (n : Int))) = w3 at *
    clear hcopy r2 csz2 hf2 hls hfl hov hpo
    generalize prq (wat (a ++ c) q) 128 = NP at *
    generalize blk ws NP = BW at *
    have hpw : (hcells ws NP ((A : Int) + (n : Int))).extract 0 (0 + (irow .u64 ws).size) = irow .u64 ws := by rw [irow_size, hw8]; exact hcells_words _ _ _ hw8
    have hpp : (hcells ws NP ((A : Int) + (n : Int))).extract 8 (8 + (irow .u8 NP).size) = irow .u8 NP := by rw [irow_size, hpl]; exact hcells_part _ _ _ hw8 hpl
    have HR := keepr r3
    replace hres := hide hres
    refine wp_region_tail (C := fun w' => ∃ p : Regrown, w' = grow (redrawn w3 p.d) p.os) 12 _ rfl rfl rfl (by kernel_rfl) (by kernel_rfl) (by kernel_rfl) (by kernel_rfl) ⟨⟨w3.drawn + 1, #[]⟩, by rw [grow_empty]; rfl⟩ ?_
    dsimp only [List.set, idle]
    go_big_quiet_step (fail)
    go_big_quiet_step (fail)
    go_big_quiet_step (fail)
    go_big_quiet_step (fail)
    refine wpQuiet_load_part rfl 135 _ rfl g 0 rfl 139 (hcells ws NP ((A : Int) + (n : Int))) (0, 0) (irow .u64 ws) _ HR.out hpw Tryd.underlying135 rfl (info23 _ hw8) ?_
    simp only [Act.put, ZPd, ZPe, ZPf]
    go_big_quiet_step (fail)
    go_big_quiet_step (fail)
    go_big_quiet_step (fail)
    refine wpQuiet_load_part rfl 137 _ rfl g 8 rfl 139 (hcells ws NP ((A : Int) + (n : Int))) (0, 0) (irow .u8 NP) _ HR.out hpp Tryd.underlying137 rfl (info24 _ hpl) ?_
    simp only [Act.put, ZPd, ZPe, ZPf]
    go_big_quiet_step (exact cB.re)
    go_big_quiet_step (fail)
    go_big_quiet_step (fail)
    refine wpQuiet_idle rfl rfl rfl ?_
    rintro _ ⟨p, rfl⟩
    have hb := below_regrown w3 p.d p.os
    generalize grow (redrawn w3 p.d) p.os = w4 at *
    replace r3 := keep hb r3
    replace hw := grown_below hw hb
    clear hb
    clear HR hpw hpp cB
    go_wp2_with (first | (refine wpList_store_part rfl 135 _ _ rfl g 0 (irow .u64 BW) rfl rfl 139 _ (hcells BW NP ((A : Int) + (n : Int))) r3 (by rw [irow_size, hbl, hcells_size _ _ _ hw8 hpl]; omega) (hcells_setwords _ _ _ _ hw8 hpl hbl) (info23 _ hbl) (irow_one _ _) ?_) | (refine wpList_build_as rfl 137 _ rfl [] rfl (irow .u8 (zr 128)) zbuilt ?_) | (refine wpList_store_part rfl 137 _ _ rfl g 8 (irow .u8 (zr 128)) rfl rfl 139 _ (hcells BW (zr 128) ((A : Int) + (n : Int))) (setRow_heap w4 g _ (hcells BW NP ((A : Int) + (n : Int))) _ _ r3) (by rw [irow_size, zr_len, hcells_size _ _ _ hbl hpl]; omega) (hcells_setpart _ _ _ _ hbl hpl (zr_len 128)) (info24 _ (zr_len 128)) (irow_one _ _) ?_) | fail)
    have r5 := setRow_heap _ g _ (hcells BW (zr 128) ((A : Int) + (n : Int))) _ _ (setRow_heap w4 g _ (hcells BW NP ((A : Int) + (n : Int))) _ _ r3)
    replace hw := grown_setRow (hcells BW (zr 128) ((A : Int) + (n : Int))) (grown_setRow (hcells BW NP ((A : Int) + (n : Int))) hw)
    generalize (w4.setRow g (hcells BW NP ((A : Int) + (n : Int)))).setRow g (hcells BW (zr 128) ((A : Int) + (n : Int))) = w6 at *
    simp only [Act.put]
    refine ⟨?_, ?measure⟩
    apply Exists.intro
    apply Exists.intro
    repeat apply Exists.intro
    refine ⟨?rel, rfl⟩
    case rel =>
     refine ⟨k + n, ao2, by have := em.out; omega, by have e1 := em.out; have e2 := eC.out; rw [show len - (k + n) = m - n by omega, show cap - (k + n) = C - n by omega], fun h => ⟨b0, off, rfl, ?_⟩, by rw [hnx'.out, hres.out]; exact r5, hw⟩
     rw [hao2 (by have e1 := em.out; omega), ← eo.out, Nat.add_assoc]
    case measure =>
     show m - n < m
     omega
  ·obtain rfl : k = len := by omega
   have hd : decide ((0 : Int) < ((k - k : Nat) : Int)) = false := by simp
   have et : b.take k = b := List.take_of_length_le (by omega)
   rw [et] at rH
   go_wp2
   go_end0
   exact ⟨rfl, rH, hw⟩
end Go.Proofs.YtajaiiidafkijaaDoor.Wi
namespace Go.Proofs.YtajaiiidafkijaaDoor.Wi
set_option maxRecDepth 100000
open Go Go.RowKit Go.Sort
attribute [local go_sem] setCell_drewN alloc_drewN
theorem zH (W : World) : (Instr.alloc 139 true (.tuple #[])).run Tryd.prog W = .ok (.pointer (some ⟨W.heap.size, 0, none⟩)) (W.alloc (.cells (hcells (zr 8) (zr 128) 0) 139)) := by kernel_rfl
theorem bH (cs : Array Value) (W : World) : (Instr.box 139 (.agg cs)).run Tryd.prog W = .ok (.pointer (some ⟨W.heap.size, 0, none⟩)) (W.alloc (.cells cs 139)) := by kernel_rfl
theorem nbuilt : Tryd.prog.built 139 [(0, .agg (irow .u64 sl))] = some (hst []) := by kernel_rfl
theorem infoH (ws ps : List Int) (sz : Int) (h1 : ws.length = 8) (h2 : ps.length = 128) : (Tryd.prog.info? 139).map (·.size) = some (hcells ws ps sz).size := by
 rw [hcells_size _ _ _ h1 h2]; kernel_rfl
theorem infoS (bs : List Int) : (Tryd.prog.info? 139).map (·.size) = some (hst bs).size := infoH _ _ _ (hwords_len bs) (hpart_len bs)
theorem fitS (bs : List Int) : (hcells (zr 8) (zr 128) 0).size = (hst bs).size := by
 rw [hcells_size _ _ _ (zr_len 8) (zr_len 128), hst, hcells_size _ _ _ (hwords_len bs) (hpart_len bs)]
set_option maxRecDepth 100000 in
set_option maxHeartbeats 2000000 in
theorem a_new (w : World) : Calls Tryd.prog 63 #[] w fun e w' => ∃ g, w.heap.size ≤ g ∧ e = .returned (.pointer (some ⟨g, 0, none⟩)) ∧ w'.heap[g]? = some (.cells (hst []) 139 (0, 0)) ∧ Below w.heap.size w w' := by
 go_enter Tryd.func63, Tryd.ntmps63
 go_wp2_with (fail)
 refine (a_start.at _).mono ?_
 rintro e_ w1 ⟨rfl, hb⟩
 have R0 := hp1_0 w1 (.cells (hst []) 139)
 have HW : Below w.heap.size w (w1.alloc (.cells (hst []) 139)) := hb.alloc hb.size _
 go_wp2_with (first | (refine wpList_build_as rfl 139 _ rfl [(0, .agg (irow .u64 sl))] rfl (hst []) nbuilt ?_) | (refine wpList_box rfl 139 _ rfl _ rfl (bH _) ?_) | fail)
 go_ret
 exact ⟨_, hb.size, rfl, R0, HW⟩
theorem sumW_eq (bs : List Int) : hwords (bs ++ padL bs.length) = sumW bs := rfl
set_option maxRecDepth 100000 in
set_option maxHeartbeats 4000000 in
theorem a_hsum (bs : List Int) (g : Nat) (w : World) (rH : w.heap[g]? = some (.cells (hst bs) 139 (0, 0))) (hz : ∀ z ∈ bs, 0 ≤ z ∧ z < 256) (hlim : bs.length ≤ 4611686018427387000) : Calls Tryd.prog 65 #[.pointer (some ⟨g, 0, none⟩)] w fun e w' => e = .returned (.agg (irow .u8 (sumL bs))) ∧ Below w.heap.size w w' := by
 have lg := lt_of_row rH
 have hpb := plen_bd bs.length
 have hpl := padL_len bs.length
 have r0 := hp2_0 w (.cells (irow .u8 (zr 64)) 37) (.cells (hst bs) 139)
 have r1 := hp2_1 w (.cells (irow .u8 (zr 64)) 37) (.cells (hst bs) 139)
 have hw : Below w.heap.size w ((w.alloc (.cells (irow .u8 (zr 64)) 37)).alloc (.cells (hst bs) 139)) := ((Below.refl _ _).alloc (Nat.le_refl _) _).alloc (by simp) _
 have rH0 : (w.alloc (.cells (irow .u8 (zr 64)) 37)).heap[g]? = some (.cells (hst bs) 139 (0, 0)) := keep ((Below.refl _ _).alloc (Nat.le_refl _) _) rH
 have csz := cell_of (keep hw rH) (hcells_at _ _ _ (hwords_len bs) (hpart_len bs))
 have cP := a_pad bs.length (by omega)
 go_enter Tryd.func65, Tryd.ntmps65
 go_wp2_with (first | (refine wpList_alloc rfl 37 rfl (irow .u8 (zr 64)) zwide ?_) | (refine wpList_load_want rfl 139 _ rfl g rfl 139 (hst bs) (0, 0) _ rH0 Tryd.underlying139 rfl (infoS _) ?_) | (refine wpList_alloc rfl 139 rfl (hcells (zr 8) (zr 128) 0) zH ?_) | (refine wpList_store_row rfl 139 _ _ rfl ((w.alloc (.cells (irow .u8 (zr 64)) 37)).heap.size) (hst bs) rfl rfl 139 _ (hp1_0 (w.alloc (.cells (irow .u8 (zr 64)) 37)) _) (infoS _) (fitS _) (hcells_one _ _ _) ?_; rw [setRow_alloc_new _ _ _ _ _ _ rfl]) | fail)
 try simp only [size_alloc1, Act.put, List.setIfInBounds_toArray, List.set_cons_succ, List.set_cons_zero]
 have ysz : ((w.alloc (.cells (irow .u8 (zr 64)) 37)).alloc (.cells (hst bs) 139)).heap.size = w.heap.size + 1 + 1 := by rw [size_alloc1, size_alloc1]
 generalize ((w.alloc (.cells (irow .u8 (zr 64)) 37)).alloc (.cells (hst bs) 139)) = w0 at *
 refine (cP w0).mono ?_
 rintro e_ w1 ⟨vp, gp, rfl, rfl, hgp, rp, hb⟩
 replace r0 := keep hb r0
 replace r1 := keep hb r1
 replace hw := Below.after hw hb
 clear hb csz rH0 cP
 have hBp : Bys w1 (.slice (some ⟨gp, 0, none⟩) (plen bs.length) (plen bs.length)) (padL bs.length) := by rw [← hpl]; exact Bys.of_row rp (by omega) (padL_bd _) _
 have cW := a_write bs (padL bs.length) (w.heap.size + 1) w1 _ r1 hBp (fun a l c h _ => by cases h; show gp ≠ w.heap.size + 1; omega) (fun a l c h => by cases h; exact Nat.le_refl _) hz (by rw [hpl]; omega)
 go_wp2_with (fail)
 refine cW.mono ?_
 rintro e_ w2 ⟨rfl, r2, hgr⟩
 have l0 := lt_of_row r0
 replace r0 : w2.heap[w.heap.size]? = _ := (hgr.block _ l0 (by intro e; injection e with e; omega)).trans r0
 replace hw := hw.grown hgr hw.size (fun k h => by injection h with h; omega)
 clear hgr cW r1 hBp rp
 have hW8 := sumW_len bs
 have hWb := sumW_bd bs
 have hSl := sumL_len bs
 have cT := a_told (sumW bs) hW8 hWb
 rw [show byts (sumW bs) = sumL bs from rfl] at cT
 rw [hst, sumW_eq] at r2
 have hq64 := hpart_len (bs ++ padL bs.length)
 generalize hpart (bs ++ padL bs.length) = PS at *
 generalize (((bs ++ padL bs.length).length : Nat) : Int) = SZ at *
 generalize sumW bs = SW at *
 have hpw : (hcells SW PS SZ).extract 0 (0 + (irow .u64 SW).size) = irow .u64 SW := by rw [irow_size, hW8]; exact hcells_words _ _ _ hW8
 clear hWb hpl hpb
 go_wp2_with (first | (refine wpList_load_part rfl 135 _ rfl (w.heap.size + 1) 0 rfl 139 (hcells SW PS SZ) (0, 0) (irow .u64 SW) _ r2 hpw Tryd.underlying135 rfl (info23 _ hW8) ?_) | fail)
 refine (cT.at _).mono ?_
 rintro e_ w3 ⟨rfl, hb⟩
 replace r0 := keep hb r0
 replace hw := Below.after hw hb
 clear hb cT
 go_wp2_with (first | (refine wpList_store_row rfl 37 _ _ rfl (w.heap.size) (irow .u8 (sumL bs)) rfl rfl 37 _ r0 (infok8 _ hSl) (fit64 _ _ (zr_len 64) hSl) (irow_one _ _) ?_) | fail)
 replace r0 := setRow_heap w3 (w.heap.size) _ (irow .u8 (sumL bs)) _ _ r0
 replace hw := below_setRow hw (Nat.le_refl _) (irow .u8 (sumL bs))
 generalize w3.setRow (w.heap.size) (irow .u8 (sumL bs)) = w9 at *
 exact bodyPost_ret (v := .agg (irow .u8 (sumL bs))) (results_cell_row Tryd.results65 _ _ (w.heap.size) _ _ _ _ rfl r0 Tryd.underlying37 rfl (infok8 _ hSl)) rfl ⟨rfl, hw⟩
set_option maxRecDepth 100000 in
set_option maxHeartbeats 4000000 in
theorem a_sum (bs : List Int) (w : World) (v : Value) (hB : Bys w v bs) (hcap : ∀ a l c, v = .slice a l c → l ≤ c) (hlim : bs.length ≤ 4611686018427387000) : Calls Tryd.prog 17 #[v] w fun e w' => e = .returned (.agg (irow .u8 (sumL bs))) ∧ Below w.heap.size w w' := by
 have r0 := hp1_0 w (.cells (irow .u8 (zr 64)) 37)
 have hw : Below w.heap.size w (w.alloc (.cells (irow .u8 (zr 64)) 37)) := (Below.refl _ _).alloc (Nat.le_refl _) _
 have hB0 := hB.keep hw
 obtain ⟨ao, cap, rfl, _, hc, hz⟩ := hB
 replace hcap := hcap _ _ _ rfl
 have hSl := sumL_len bs
 have hne : ∀ a, ao = some a → 0 < bs.length → a.block < w.heap.size := by
  rintro a rfl hl
  obtain ⟨b0, off, e, hb, _⟩ := hc 0 hl
  cases e
  exact hb
 clear hc
 go_enter Tryd.func17, Tryd.ntmps17
 go_wp2_with (first | (refine wpList_alloc rfl 37 rfl (irow .u8 (zr 64)) zwide ?_) | fail)
 try simp only [size_alloc1, Act.put, List.setIfInBounds_toArray, List.set_cons_succ, List.set_cons_zero]
 have ysz : (w.alloc (.cells (irow .u8 (zr 64)) 37)).heap.size = w.heap.size + 1 := size_alloc1 _ _
 generalize (w.alloc (.cells (irow .u8 (zr 64)) 37)) = w0 at *
 refine (a_new w0).mono ?_
 rintro e_ w1 ⟨gN, hgN, rfl, r1, hb⟩
 replace r0 := keep hb r0
 replace hB0 := hB0.keep hb
 replace hw := Below.after hw hb
 clear hb
 rw [ysz] at hgN
 clear ysz
 have cW := a_write [] bs gN w1 _ r1 hB0 (fun a l c h hl => by cases h; have := hne a rfl hl; omega) (fun a l c h => by cases h; exact hcap) (by simp) (by simp; omega)
 rw [List.nil_append] at cW
 go_wp2_with (fail)
 refine cW.mono ?_
 rintro e_ w2 ⟨rfl, r2, hgr⟩
 have l0 := lt_of_row r0
 replace r0 : w2.heap[w.heap.size]? = _ := (hgr.block _ l0 (by intro e; injection e with e; omega)).trans r0
 replace hw := hw.grown hgr hw.size (fun k h => by injection h with h; omega)
 clear hgr cW r1
 have cS := a_hsum bs gN w2 r2 hz hlim
 go_wp2_with (fail)
 refine cS.mono ?_
 rintro e_ w3 ⟨rfl, hb⟩
 replace r0 := keep hb r0
 replace hw := Below.after hw hb
 clear hb cS
 go_wp2_with (first | (refine wpList_store_row rfl 37 _ _ rfl (w.heap.size) (irow .u8 (sumL bs)) rfl rfl 37 _ r0 (infok8 _ hSl) (fit64 _ _ (zr_len 64) hSl) (irow_one _ _) ?_) | fail)
 replace r0 := setRow_heap w3 (w.heap.size) _ (irow .u8 (sumL bs)) _ _ r0
 replace hw := below_setRow hw (Nat.le_refl _) (irow .u8 (sumL bs))
 generalize w3.setRow (w.heap.size) (irow .u8 (sumL bs)) = w9 at *
 exact bodyPost_ret (v := .agg (irow .u8 (sumL bs))) (results_cell_row Tryd.results17 _ _ (w.heap.size) _ _ _ _ rfl r0 Tryd.underlying37 rfl (infok8 _ hSl)) rfl ⟨rfl, hw⟩
end Go.Proofs.YtajaiiidafkijaaDoor.Wi
namespace Go.Proofs.YtajaiiidafkijaaDoor
set_option maxRecDepth 100000
theorem L_ell : L19 = (ell : Int) := by unfold L19; decide
def nbr (bs : List Int) : Int := (bval (Wi.sumL bs) : Int) % L19
theorem nbr_bd (bs : List Int) : 0 ≤ nbr bs ∧ nbr bs < L19 := mod_L _
theorem ml_mod (m : Nat) : ml (m % ell) bp = ml m bp := by
 have e : m = (m / ell) * ell + m % ell := by rw [Nat.mul_comm]; exact (Nat.div_add_mod m ell).symm
 have h : ml m bp = pl (ml ((m / ell) * ell) bp) (ml (m % ell) bp) := by rw [← ml_add, ← e]
 rw [h, ← ml_ml, bp_order, ml_ze, ze_pl]
theorem bp_inj {j k : Nat} (hj : j < ell) (hk : k < ell) (h : ml j bp = ml k bp) : j = k := by
 have aux : ∀ j k : Nat, k < ell → j ≤ k → ml j bp = ml k bp → j = k := by
  intro j k hk hl h
  have hd := bp_div (ml_sub h hl)
  rcases Nat.eq_zero_or_pos (k - j) with e | e
  ·omega
  ·exact (not_dvd_of_lt e (by omega) hd).elim
 rcases Nat.le_total j k with g | g
 ·exact aux j k hk g h
 ·exact (aux k j hj g h.symm).symm
theorem pl_ngb (P Q : E1) : pl (pl P Q) (ng Q) = P := by rw [pl_assoc, pl_ng, pl_ze]
theorem sig_hold {a r c : Int} (ha : 0 ≤ a) (hr : 0 ≤ r) (hc : 0 ≤ c) {A : E1} (hA : ml a.toNat bp = A) : pl (ml ((r + c * a) % L19).toNat bp) (ng (ml c.toNat A)) = ml r.toNat bp := by
 have hca : 0 ≤ c * a := Int.mul_nonneg hc ha
 have e : ((r + c * a) % L19).toNat = (r.toNat + c.toNat * a.toNat) % ell := by
  rw [L_ell, Int.toNat_emod (by omega) (by decide), Int.toNat_natCast, Int.toNat_add hr hca, Int.toNat_mul hc ha]
 rw [e, ml_mod, ml_add, ← ml_ml, hA, pl_ngb]
theorem ml_red {a : Int} (ha : 0 ≤ a) : ml (a % L19).toNat bp = ml a.toNat bp := by
 rw [L_ell, Int.toNat_emod ha (by decide), Int.toNat_natCast, ml_mod]
theorem clp_big (K : Int) : ml 8 (ml (clp K).toNat bp) ≠ ze := fun h => by
 rw [ml_ml] at h
 have hd := bp_div h
 have hb : clp K = 8 * ((clp K) / 8) ∧ 0 < clp K / 8 ∧ clp K / 8 < 7237005577332262213973186563042994240829374041602535252466099000494570602496 := by unfold clp; omega
 have hl : (ell : Int) = 7237005577332262213973186563042994240857116359379907606001950938285454250989 := by rw [← L_ell]; rfl
 have e : 8 * (clp K).toNat = 64 * (clp K / 8).toNat := by omega
 rw [e] at hd
 rcases ell_prime.euclid hd with g | g
 ·exact not_dvd_of_lt (by decide) (by decide) g
 ·exact not_dvd_of_lt (by omega) (by omega) g
def sml (P : E1) : Bool := eqb (ml 8 P) ze
theorem sml_iff (P : E1) : sml P = true ↔ ml 8 P = ze := eqb_iff _ _
theorem sml_clp (K : Int) : sml (ml (clp K).toNat bp) = false := by
 rw [← Bool.not_eq_true, sml_iff]; exact clp_big K
theorem ng_ng (P : E1) : ng (ng P) = P := by
 have h : pl (pl P (ng P)) (ng (ng P)) = P := pl_ngb _ _
 rw [pl_ng, ze_pl] at h
 exact h
def chl (R A : Int) (b : List Int) : Int := nbr (b32 R ++ (b32 A ++ b))
def back (P : E1) (b : List Int) (R S : Int) : E1 := pl (ml S.toNat bp) (ng (ml (chl R (pb P) b).toNat P))
def hld (P : E1) (b : List Int) (R S : Int) : Int := if sml P = true then 200 else if L19 ≤ S then 191 else if pb (back P b R S) = R then 0 else 201
noncomputable def chk (N : Int) (b : List Int) (R S : Int) : Int := if pe N = 0 then hld (pp N) b R S else pe N
noncomputable def hnr (N : Int) (b : List Int) (R S : Int) : Int := if N % 57896044618658097711785492504343953926634992332820282019728792003956564819968 % prm = N then (if le' N false = 0 then hld (lp N false) b R S else le' N false) else 190
def sgR (r : Int) : Int := pb (ml r.toNat bp)
def sgS (a r A : Int) (b : List Int) : Int := (r + chl (sgR r) A b * a) % L19
theorem sgS_bd (a r A : Int) (b : List Int) : 0 ≤ sgS a r A b ∧ sgS a r A b < L19 := mod_L _
theorem hld_signed {a r : Int} (ha : 0 ≤ a) (hr : 0 ≤ r) {P : E1} (hA : ml a.toNat bp = P) (hs : sml P = false) (b : List Int) : hld P b (sgR r) (sgS a r (pb P) b) = 0 := by
 have hb := sgS_bd a r (pb P) b
 unfold hld
 rw [hs, if_neg (by decide), if_neg (by omega), if_pos]
 unfold back
 have h := sig_hold (a := a) (r := r) (c := chl (sgR r) (pb P) b) ha hr (nbr_bd _).1 hA
 unfold sgS
 rw [h]
 rfl
theorem hld_once {a r S : Int} (ha : 0 ≤ a) (hr : 0 ≤ r) {P : E1} (hA : ml a.toNat bp = P) (hs : sml P = false) (b : List Int) (h0 : 0 ≤ S) (hS : S ≠ sgS a r (pb P) b) : hld P b (sgR r) S = 191 ∨ hld P b (sgR r) S = 201 := by
 unfold hld
 rw [hs, if_neg (by decide)]
 by_cases g : L19 ≤ S
 ·rw [if_pos g]; exact Or.inl rfl
 ·rw [if_neg g, if_neg]
  ·exact Or.inr rfl
  ·intro e
   have h := sig_hold (a := a) (r := r) (c := chl (sgR r) (pb P) b) ha hr (nbr_bd _).1 hA
   have e2 := pb_inj (show pb (back P b (sgR r) S) = pb (ml r.toNat bp) from e)
   unfold back at e2
   rw [← h] at e2
   have e3 := pl_cancel e2
   have hb := sgS_bd a r (pb P) b
   have hl : (ell : Int) = L19 := L_ell.symm
   have e4 := bp_inj (j := S.toNat) (k := (sgS a r (pb P) b).toNat) (by omega) (by omega) e3
   apply hS
   omega
def sK (sd : List Int) : Int := (bval ((Wi.sumL sd).take 32) : Int)
def sP (sd : List Int) : Int := (bval ((Wi.sumL sd).drop 32) : Int)
def sec (sd : List Int) : Int := clp (sK sd)
def pubP (sd : List Int) : E1 := ml (sec sd).toNat bp
end Go.Proofs.YtajaiiidafkijaaDoor
namespace Go.Proofs.YtajaiiidafkijaaDoor
set_option maxRecDepth 100000
open Go Go.RowKit Go.Sort
attribute [local go_sem] setCell_drewN alloc_drewN
def Sgn (w : World) : Prop := Edw w ∧ Ord w
theorem Sgn.below {w w' : World} (h : Sgn w) (hb : Below w.heap.size w w') : Sgn w' := ⟨h.1.below hb, h.2.below hb⟩
theorem Sgn.alloc {w : World} (h : Sgn w) (o : Obj) : Sgn (w.alloc o) := h.below ((Below.refl _ _).alloc (Nat.le_refl _) _)
theorem Sgn.four {w : World} (h : Sgn w) : Four w := h.1.1.1
def GivesS (f : FuncId) (args : Array Value) (v : Value) : Prop := ∀ W, Sgn W → Calls Tryd.prog f args W fun e w' => e = .returned v ∧ Below W.heap.size W w'
theorem GivesS.at {f : FuncId} {args : Array Value} {v : Value} (h : GivesS f args v) {W : World} (hW : Sgn W) : Calls Tryd.prog f args W fun e w' => e = .returned v ∧ Below W.heap.size W w' := h W hW
theorem GivesS.re {f : FuncId} {args : Array Value} {v : Value} (h : GivesS f args v) {w : World} {d : Nat} {os : Array Obj} (hw : Sgn w) : Calls Tryd.prog f args (grow (redrawn w d) os) fun e w'' => e = .returned v ∧ ∃ p : Regrown, w'' = grow (redrawn w p.d) p.os := Calls.regrown_of (h _ (hw.below (below_regrown w d os)))
def BysK (W : World) (v : Value) (bs : List Int) : Prop := Bys W v bs ∧ (∀ a l c, v = .slice a l c → l ≤ c) ∧ bs.length ≤ 4611686018427380000
theorem BysK.keep {W W' : World} {v : Value} {bs : List Int} (h : BysK W v bs) (hb : Below W.heap.size W W') : BysK W' v bs := ⟨h.1.keep hb, h.2.1, h.2.2⟩
def PcK (W : World) (v : Value) (ps : List (List Int)) : Prop := ∃ ao cap, v = .slice ao ps.length cap ∧ ps.length ≤ 9223372036854775807 ∧ ∀ i, i < ps.length → ∃ b off u uc, ao = some ⟨b, off, none⟩ ∧ b < W.heap.size ∧ W.cell? ⟨b, off + i, none⟩ = some (.slice u (ps.getD i []).length uc) ∧ Bys W (.slice u (ps.getD i []).length uc) (ps.getD i []) ∧ (ps.getD i []).length ≤ uc
def flt (ps : List (List Int)) (k : Nat) : List Int := (ps.take k).flatten
theorem flt_next (ps : List (List Int)) (k : Nat) (hk : k < ps.length) : flt ps (k + 1) = flt ps k ++ ps.getD k [] := by
 unfold flt
 rw [List.take_add_one, List.flatten_append, List.getElem?_eq_getElem hk, List.getD_eq_getElem?_getD, List.getElem?_eq_getElem hk]
 simp
theorem flt_all (ps : List (List Int)) : flt ps ps.length = ps.flatten := by unfold flt; rw [List.take_length]
theorem flt_len (ps : List (List Int)) (k : Nat) : (flt ps k).length ≤ ps.flatten.length := by
 have h := congrArg List.flatten (List.take_append_drop k ps)
 rw [List.flatten_append] at h
 have := congrArg List.length h
 rw [List.length_append] at this
 unfold flt
 omega
theorem bys_blk {W : World} {u : Option Addr} {l c : Nat} {bs : List Int} (h : Bys W (.slice u l c) bs) : ∀ a, u = some a → 0 < l → a.block < W.heap.size := by
 obtain ⟨ao, cap, e, _, hc, _⟩ := h
 rintro a rfl hl
 cases e
 obtain ⟨b, off, e, hb, _⟩ := hc 0 hl
 cases e
 exact hb
theorem below_grown {a b c : World} {g : Nat} (h : Below a.heap.size a b) (hg : b.grownBy c (some g)) (hge : a.heap.size ≤ g) : Below a.heap.size a c := h.grown hg h.size (fun k e => by injection e with e; omega)
theorem zW (W : World) : (Instr.alloc 37 true (.tuple #[])).run Tryd.prog W = .ok (.pointer (some ⟨W.heap.size, 0, none⟩)) (W.alloc (.cells (Wi.irow .u8 (Wi.zr 64)) 37)) := by kernel_rfl
theorem irow_one (l : List Int) : (Wi.irow .u8 l).all (·.oneCell') = true := by
 rw [Array.all_eq_true']
 intro x hx
 have := Wi.ints_one .u8 l x (by simpa [Wi.irow] using hx)
 exact this
theorem bval_byt : ∀ (l : List Int), (∀ z ∈ l, 0 ≤ z ∧ z < 256) → ∀ i, i < l.length → byt (bval l : Int) i = l.getD i 0
 | [], _, _, h => by simp at h
 | z :: l, hz, 0, _ => by
  have h := hz z (by simp)
  unfold byt
  simp only [bval, List.getD_cons_zero]
  omega
 | z :: l, hz, i + 1, hi => by
  have h := hz z (by simp)
  have ih := bval_byt l (fun y hy => hz y (List.mem_cons_of_mem _ hy)) i (by simpa using hi)
  unfold byt at *
  have e : (bval (z :: l) : Int) / 256 ^ (i + 1) = (bval l : Int) / 256 ^ i := by
   rw [Int.pow_succ, Int.mul_comm, ← Int.ediv_ediv_of_nonneg (by decide)]
   congr 1
   simp only [bval]
   omega
  rw [e, ih]
  simp
theorem b32_map (N : Int) : b32 N = (List.range 32).map (byt N) := rfl
theorem b32_bval (l : List Int) (hl : l.length = 32) (hz : ∀ z ∈ l, 0 ≤ z ∧ z < 256) : b32 (bval l : Int) = l := by
 rw [b32_map]
 apply List.ext_getElem
 ·simp [hl]
 ·intro i h1 h2
  rw [List.getElem_map, List.getElem_range, bval_byt l hz i h2, List.getD_eq_getElem?_getD, List.getElem?_eq_getElem h2]
  rfl
theorem bval_bd : ∀ (l : List Int), (∀ z ∈ l, 0 ≤ z ∧ z < 256) → bval l < 256 ^ l.length
 | [], _ => by decide
 | z :: l, hz => by
  have h := hz z (by simp)
  have ih := bval_bd l (fun y hy => hz y (List.mem_cons_of_mem _ hy))
  simp only [bval, List.length_cons, Nat.pow_succ]
  omega
theorem bval_key (l : List Int) (hl : l.length = 32) (hz : ∀ z ∈ l, 0 ≤ z ∧ z < 256) : KeyOf (kb (bval l : Int)) (bval l : Int) := by
 have := bval_bd l hz
 rw [hl] at this
 have e : (256 : Nat) ^ 32 = 115792089237316195423570985008687907853269984665640564039457584007913129639936 := by decide
 exact kb_key _ (by omega) (by omega)
theorem sum_bd (bs : List Int) : ∀ z ∈ Wi.sumL bs, 0 ≤ z ∧ z < 256 := Wi.byts_bd _
theorem sK_key (sd : List Int) : KeyOf (kb (sK sd)) (sK sd) := bval_key _ (by simp [Wi.sumL_len]) (fun z h => sum_bd sd z (List.mem_of_mem_take h))
theorem sK_b32 (sd : List Int) : b32 (sK sd) = (Wi.sumL sd).take 32 := b32_bval _ (by simp [Wi.sumL_len]) (fun z h => sum_bd sd z (List.mem_of_mem_take h))
theorem sP_b32 (sd : List Int) : b32 (sP sd) = (Wi.sumL sd).drop 32 := b32_bval _ (by simp [Wi.sumL_len]) (fun z h => sum_bd sd z (List.mem_of_mem_drop h))
end Go.Proofs.YtajaiiidafkijaaDoor

