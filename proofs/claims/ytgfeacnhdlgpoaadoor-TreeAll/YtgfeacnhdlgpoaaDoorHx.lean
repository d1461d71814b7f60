import Derived.Test.YtgfeacnhdlgpoaaDoorProg
import Derived.WalkKit
import Derived.WalkSpells
import Derived.WalkLawsBesides
import Derived.Lib.QuietBelow
import Derived.BigQuiet
import Derived.Test.YtgfeacnhdlgpoaaDoorKa
import Derived.Test.YtgfeacnhdlgpoaaDoorHw
namespace Go.Proofs.YtgfeacnhdlgpoaaDoor
set_option maxRecDepth 100000
open Go Go.RowKit Go.Sort
attribute [local go_sem] setCell_drewN alloc_drewN

/-- The hash of bytes. -/
def sumW (bs : List Int) : List Int := fol sl (bs ++ padL bs.length) ((bs ++ padL bs.length).length / 64)
def sumL (bs : List Int) : List Int := byts (sumW bs)
theorem sumW_len (bs : List Int) : (sumW bs).length = 8 := fol_len rfl _ _
theorem sumW_bd (bs : List Int) : ∀ x ∈ sumW bs, 0 ≤ x ∧ x < 4294967296 := fol_bd sl_bd _ _
theorem sumL_len (bs : List Int) : (sumL bs).length = 32 := byts_len _
theorem padL_len (n : Nat) : (padL n).length = plen n := padP_len n 8
theorem bys_none {W : World} {ao : Option Addr} {cap : Nat} {bs : List Int} (hB : Bys W (.slice ao bs.length cap) bs) (hn : ∀ a l c, Value.slice ao bs.length cap = .slice a l c → a = none → c = 0) : ao = none → bs.length = 0 ∧ cap = 0 := by
  intro h
  refine ⟨?_, hn _ _ _ rfl h⟩
  obtain ⟨ao', cap', e, _, hc, _⟩ := hB
  cases e
  rcases Nat.eq_zero_or_pos bs.length with e | e
  · exact e
  · obtain ⟨b, off, e', _⟩ := hc 0 e
    rw [h] at e'; cases e'
theorem bys_cells {W : World} {ao : Option Addr} {cap : Nat} {bs : List Int} (hB : Bys W (.slice ao bs.length cap) bs) : ∀ ad, ao = some ad → ∀ j u, (bs.map (Value.int .u8))[j]? = some u → W.cell? (ad.add j) = some u := by
  obtain ⟨ao', cap', e, _, hc, _⟩ := hB
  cases e
  intro ad had j u hu
  have hj : j < bs.length := by have := (List.getElem?_eq_some_iff.1 hu).1; simpa using this
  obtain ⟨b, off, e', hb, hcl⟩ := hc j hj
  obtain rfl : ad = ⟨b, off, none⟩ := Option.some.inj (had.symm.trans e')
  have : u = .int .u8 (bs.getD j 0) := by
    simp only [List.getElem?_map, List.getElem?_eq_getElem hj, Option.map_some, Option.some.injEq] at hu
    rw [← hu, List.getD_eq_getElem?_getD, List.getElem?_eq_getElem hj]; rfl
  rw [this, addr_add]
  exact hcl
theorem Bys.of_own {W : World} {b n : Nat} {v : Value} {l : List Int} (h : W.ownsRow b 5 1 v n (l.map (Value.int .u8))) (hl : l.length ≤ 9223372036854775807) (hz : ∀ z ∈ l, 0 ≤ z ∧ z < 256) : Bys W v l := by
  obtain ⟨h1, ⟨rfl, rfl⟩ | ⟨g, cap, cur, rfl, hb, hg, hn, hm, hs, ht⟩⟩ := h
  · have : l = [] := List.eq_nil_of_length_eq_zero (by simpa using h1)
    subst this
    exact ⟨none, 0, rfl, by decide, fun j hj => by simp at hj, by simp⟩
  · have hln : l.length = n := by simpa using h1
    refine ⟨_, cap, by rw [hln], hl, fun j hj => ⟨g, 0, rfl, lt_of_row hg, ?_⟩, hz⟩
    rw [Nat.zero_add, cell_of_row _ _ _ _ _ _ hg]
    have h2 := congrArg (fun q => q[j]?) ht
    simp only [Nat.mul_one] at h2
    rw [List.getElem?_take_of_lt (by omega), List.getElem?_map, List.getElem?_eq_getElem hj] at h2
    rw [← Array.getElem?_toList, h2, List.getD_eq_getElem?_getD, List.getElem?_eq_getElem hj]
    rfl
theorem own_keep {W W' : World} {b n : Nat} {T : TypeId} {v : Value} {xs : List Value} (h : W.ownsRow b T 1 v n xs) (hb : Below W.heap.size W W') : W'.ownsRow b T 1 v n xs := by
  obtain ⟨h1, h2 | ⟨g, cap, cur, rfl, hb2, hg, h3⟩⟩ := h
  · exact ⟨h1, .inl h2⟩
  · exact ⟨h1, .inr ⟨g, cap, cur, rfl, hb2, keep hb hg, h3⟩⟩
theorem both_bd {a b : List Int} (ha : ∀ z ∈ a, 0 ≤ z ∧ z < 256) (hb : ∀ z ∈ b, 0 ≤ z ∧ z < 256) : ∀ z ∈ a ++ b, 0 ≤ z ∧ z < 256 := fun z hz => (List.mem_append.1 hz).elim (ha z) (hb z)
set_option maxRecDepth 100000 in
set_option maxHeartbeats 4000000 in
theorem r_sum (bs : List Int) (w : World) (v : Value) (hN : BysN w v bs) : Calls Tryd.prog 42 #[v] w fun e w' => e = .returned (.agg (irow .u8 (sumL bs))) ∧ Below w.heap.size w w' := by
  obtain ⟨hB, hlim, hnil⟩ := hN
  have r0 := hp1_0 w (.cells (irow .u8 (zr 32)) 24)
  have hw : Below w.heap.size w (w.alloc (.cells (irow .u8 (zr 32)) 24)) := ((Below.refl _ _).alloc (Nat.le_refl _) _)

  replace hB := hB.keep hw
  have hz := hB
  obtain ⟨ao, cap, rfl, _, _, hz⟩ := hz
  have hnone := bys_none hB hnil
  obtain ⟨i0, hi, hz0, hz1, hz2⟩ := info8
  have hpb := plen_bd bs.length
  have hpl := padL_len bs.length
  have cP := r_pad bs.length (by omega)
  clear hnil
  go_enter Tryd.func42, Tryd.ntmps42
  go_wp2_with (first | (refine wpList_alloc rfl 24 rfl (irow .u8 (zr 32)) zkey ?_) | (at_make; refine wpList_make_own _ rfl _ _ 22 rfl (w.heap.size + 1) 5 i0 (.int .u8 0) 1 Tryd.underlying22 hi hz0 hz1 _ _ _ (bs.length + 72) rfl rfl (by omega) (by rw [hz2]; omega) (by unfold maxLen; omega) (by rw [size_alloc1]; exact Nat.le_refl _) ?_) | fail)
  try simp only [size_alloc1]
  have ysz : (w.alloc (.cells (irow .u8 (zr 32)) 24)).heap.size = w.heap.size + 1 := size_alloc1 _ _
  generalize (w.alloc (.cells (irow .u8 (zr 32)) 24)) = w0 at *
  intro w1 hown hgr
  have hbel : Below w0.heap.size w0 w1 := (Below.refl _ _).grown hgr (Nat.le_refl _) (fun k h => by cases h)
  replace r0 := keep hbel r0
  replace hB := hB.keep hbel
  replace hw := Below.after hw hbel
  clear hbel hgr
  have hcell := bys_cells hB
  go_wp2_with (at_builtin; refine wpList_append_fits_any _ rfl (.tmp 8) (.tmp 9) 22 rfl (w.heap.size + 1) 5 i0 1 Tryd.underlying22 hi hz1 (w.heap.size + 1) 0 (bs.length + 72) [] rfl hown ao bs.length cap (bs.map (Value.int .u8)) rfl (by simp) hnone hcell (ints_one .u8 bs) (by omega) ?_)
  intro w2 hown2 hgr
  have lr0 := lt_of_row r0
  replace r0 : w2.heap[w.heap.size]? = _ := (hgr.block _ lr0 (by intro e; injection e with e; omega)).trans r0
  replace hw := hw.grown hgr hw.size (fun k h => by injection h with h; omega)
  clear hgr hcell hown hB hnone lr0
  go_wp2_with (fail)
  refine (cP w2).mono ?_
  rintro e_ w3 ⟨vp, rfl, hp, hb⟩
  replace r0 := keep hb r0
  replace hown2 := own_keep hown2 hb
  have hs2 := hw.size
  replace hw := Below.after hw hb
  clear hb cP
  obtain ⟨_, ⟨_, h0⟩ | ⟨gp, capp, curp, rfl, hgp, _⟩⟩ := id hp
  · omega
  have hcell := hp.cells (g := gp) rfl
  go_wp2_with (at_builtin; refine wpList_append_fits_any _ rfl (.tmp 11) (.tmp 15) 22 rfl (w.heap.size + 1) 5 i0 1 Tryd.underlying22 hi hz1 (w.heap.size + 1) bs.length (bs.length + 72) _ rfl hown2 (some ⟨gp, 0, none⟩) (plen bs.length) capp ((padL bs.length).map (Value.int .u8)) rfl (by simp [hpl]) (by intro h; cases h) (fun ad had => by cases had; exact hcell) (ints_one .u8 _) (by omega) ?_)
  intro w4 hown4 hgr
  have lr0 := lt_of_row r0
  replace r0 : w4.heap[w.heap.size]? = _ := (hgr.block _ lr0 (by intro e; injection e with e; omega)).trans r0
  replace hw := hw.grown hgr hw.size (fun k h => by injection h with h; omega)
  clear hgr hcell hown2 hp lr0
  have hwl : (bs ++ padL bs.length).length = bs.length + plen bs.length := by rw [List.length_append, hpl]
  have hbz := both_bd hz (padL_bd bs.length)
  rw [← List.map_append] at hown4
  have hBw := Bys.of_own hown4 (by omega) hbz
  clear hown4
  have hfin : sumL bs = byts (fol sl (bs ++ padL bs.length) ((bs ++ padL bs.length).length / 64)) := rfl
  have hFl : (fol sl (bs ++ padL bs.length) ((bs ++ padL bs.length).length / 64)).length = 8 := fol_len rfl _ _
  have cB := r_bytes _ hFl (fol_bd sl_bd (bs ++ padL bs.length) _)
  rw [← hfin] at cB
  have cF := fun (W : World) (x : Value) (h : Bys W x (bs ++ padL bs.length)) => r_fold sl (bs ++ padL bs.length) rfl W x h (by omega)
  generalize fol sl (bs ++ padL bs.length) ((bs ++ padL bs.length).length / 64) = FW at *
  clear hfin
  have hSl := sumL_len bs
  clear hpl hwl hbz hpb hFl
  go_wp2_with (fail)
  refine (r_start.at _).mono ?_
  rintro e_ w5 ⟨rfl, hb⟩
  replace r0 := keep hb r0
  replace hBw := hBw.keep hb
  replace hw := Below.after hw hb
  clear hb
  go_wp2_with (fail)
  refine (cF w5 _ hBw).mono ?_
  rintro e_ w6 ⟨rfl, hb⟩
  replace r0 := keep hb r0
  replace hw := Below.after hw hb
  clear hb hBw
  go_wp2_with (fail)
  refine (cB.at _).mono ?_
  rintro e_ w7 ⟨rfl, hb⟩
  replace r0 := keep hb r0
  replace hw := Below.after hw hb
  clear hb
  go_wp2_with (first | (refine wpList_store_row rfl 24 _ _ rfl (w.heap.size) (irow .u8 (sumL bs)) rfl rfl 24 _ r0 (infok8 _ hSl) (fit32 _ _ (zr_len 32) hSl) (irow_one _ _) ?_) | fail)
  replace r0 := setRow_heap w7 (w.heap.size) _ (irow .u8 (sumL bs)) _ _ r0
  replace hw := below_setRow hw (Nat.le_refl _) (irow .u8 (sumL bs))
  generalize w7.setRow (w.heap.size) (irow .u8 (sumL bs)) = w9 at *
  exact bodyPost_ret (v := .agg (irow .u8 (sumL bs))) (results_cell_row Tryd.results42 _ _ (w.heap.size) _ _ _ _ rfl r0 Tryd.underlying24 rfl (infok8 _ hSl)) rfl ⟨rfl, hw⟩

end Go.Proofs.YtgfeacnhdlgpoaaDoor

