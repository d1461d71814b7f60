import Derived.Test.YtdlillgkgbfheaaDoorProg
import Derived.WalkKit
import Derived.WalkSpells
import Derived.WalkLawsBesides
import Derived.Lib.QuietBelow
import Derived.BigQuiet
import Derived.Test.YtdlillgkgbfheaaDoorKa
import Derived.Test.YtdlillgkgbfheaaDoorSgj
import Derived.Test.YtdlillgkgbfheaaDoorHf
namespace Go.Proofs.YtdlillgkgbfheaaDoor
set_option maxRecDepth 100000
open Go Go.RowKit Go.Sort
attribute [local go_sem] setCell_drewN alloc_drewN

/-- How long a slice is. -/
def slen : Value → Nat
  | .slice _ l _ => l
  | _ => 0
theorem slen_own {W : World} {b : Nat} {T : TypeId} {sz : Nat} {v : Value} {n : Nat} {xs : List Value} (h : W.ownsRow b T sz v n xs) : ∃ ao cap, v = .slice ao n cap := by
  obtain ⟨_, ⟨rfl, rfl⟩ | ⟨g, cap, cur, rfl, _⟩⟩ := h
  · exact ⟨_, _, rfl⟩
  · exact ⟨_, _, rfl⟩
set_option maxRecDepth 100000 in
theorem info8 : ∃ i, Tryd.prog.info? 5 = some i ∧ i.zero = some (.int .u8 0) ∧ i.size = 1 ∧ i.bytes = 1 := ⟨_, rfl, rfl, rfl, rfl⟩
/-- The beginning of the padding, by its length. -/
theorem pad_first (n : Nat) : (padL n).take 1 = [128] := by
  have hb := plen_bd n
  obtain ⟨m, hm⟩ : ∃ m, plen n = m + 1 := ⟨plen n - 1, by omega⟩
  simp [padL, padP, hm, List.range_succ_eq_map]
theorem pad_get (n j : Nat) (hj : j < plen n) : (padL n)[j]? = some (if j = 0 then 128 else if plen n - 8 ≤ j then pbit n (plen n - 1 - j) else 0) := by
  simp [padL, padP, hj]
theorem take_next {α : Type} (l : List α) (k : Nat) (x : α) (h : l[k]? = some x) : l.take k ++ [x] = l.take (k + 1) := by
  rw [List.take_add_one, h]; rfl
theorem new_cell (wr : World) (x : Int) : ∀ j u, [Value.int .u8 x][j]? = some u → (wr.alloc (.cells #[.int .u8 x] 5)).cell? ((⟨wr.heap.size, 0, none⟩ : Addr).add j) = some u := by
  intro j u hu
  have hj : j = 0 := by
    have := (List.getElem?_eq_some_iff.1 hu).1
    simp at this
    exact this
  subst hj
  simp at hu
  subst hu
  rw [addr_add]
  have hg : (wr.alloc (.cells #[.int .u8 x] 5)).heap[wr.heap.size]? = some (.cells #[.int .u8 x] 5 (0, 0)) := hp1_0 wr _
  simp only [World.cell?, hg]
  rfl
set_option maxHeartbeats 2000000 in
theorem r_pad (n : Nat) (hn : n < 18446744073709551616) (w : World) : Calls Tryd.prog 36 #[.int .u64 (n : Int)] w fun e w' => ∃ v, e = .returned v ∧ w'.ownsRow w.heap.size 5 1 v (plen n) ((padL n).map (Value.int .u8)) ∧ Below w.heap.size w w' := by
  have hpb := plen_bd n
  obtain ⟨i0, hi, hz0, hz1, hz2⟩ := info8
  have hown0 : (w.alloc (.cells #[.int .u8 128] 5)).ownsRow w.heap.size 5 1 (.slice (some ⟨w.heap.size, 0, none⟩) 1 1) 1 (((padL n).take 1).map (Value.int .u8)) := by
    rw [pad_first]
    refine ⟨rfl, .inr ⟨w.heap.size, 1, #[.int .u8 128], rfl, Nat.le_refl _, hp1_0 w _, Nat.le_refl _, by decide, rfl, rfl⟩⟩
  have HW : Below w.heap.size w (w.alloc (.cells #[.int .u8 128] 5)) := (Below.refl _ _).alloc (Nat.le_refl _) _
  go_enter Tryd.func36, Tryd.ntmps36
  go_wp2
  generalize w.alloc (.cells #[.int .u8 128] 5) = w0 at *
  go_loopw [3] (fun v wr => ∃ k : Nat, 1 ≤ k ∧ k ≤ plen n - 8 ∧ wr.ownsRow w.heap.size 5 1 v k (((padL n).take k).map (Value.int .u8)) ∧ Below w.heap.size w wr) (fun v _ => 72 - slen v)
  case atStart => exact ⟨1, by omega, by omega, hown0, HW⟩
  case round =>
    clear hown0 HW
    obtain ⟨k, hk0, hk, hown, hw⟩ := hrel
    obtain ⟨ao, cap, rfl⟩ := slen_own hown
    by_cases hlt : k < plen n - 8
    · have hd : ((n : Int) % 64 + (k : Int) + 8) % 64 ≠ 0 := by unfold plen at hlt; omega
      have hown_ := hown.alloc (.cells #[.int .u8 0] 5)
      go_wp2_with (at_builtin; refine wpList_append_own _ rfl (.tmp 16) (.tmp 17) 30 rfl w.heap.size 5 i0 (.int .u8 0) 1 1 Tryd.underlying30 hi hz0 hz1 hz2 rfl (by decide) (.slice ao k cap) k _ rfl hown_ ⟨wr.heap.size, 0, none⟩ 1 1 [.int .u8 0] rfl rfl (new_cell wr 0) (by simp [Value.oneCell']) (by unfold maxLen; omega) (by omega) (by rw [size_alloc1]; exact Nat.le_succ_of_le hw.size) ?_)
      intro v' w2 hown2 hgrow _
      replace hw := (hw.alloc hw.size _).grown hgrow (by rw [size_alloc1]; exact Nat.le_succ_of_le hw.size) (fun k h => (hown_.lt k h).1)
      clear hown hown_ hgrow
      obtain ⟨ao', cap', rfl⟩ := slen_own hown2

      replace hown2 : w2.ownsRow w.heap.size 5 1 (.slice ao' (k + 1) cap') (k + 1) (((padL n).take (k + 1)).map (Value.int .u8)) := by
        rw [← take_next _ _ (0 : Int) (by rw [pad_get n k (by omega), if_neg (by omega), if_neg (by omega)]), List.map_append, List.map_take]; exact hown2
      go_wp2
      refine ⟨⟨k + 1, by omega, by omega, hown2, hw⟩, ?_⟩
      simp [slen]; omega
    · obtain rfl : k = plen n - 8 := by omega
      have hd : ((n : Int) % 64 + ((plen n - 8 : Nat) : Int) + 8) % 64 = 0 := by unfold plen; omega
      have hbit : ∀ k : Nat, k < 8 → IntKind.u64.wrap ((n : Int) * 8) / 2 ^ (8 * k) % 256 = pbit n k := fun k _ => by
        unfold pbit
        rw [IntKind.wrap_u64, Int.mul_comm, Int.natCast_emod, Int.natCast_ediv, Int.natCast_emod, Int.natCast_mul, Int.natCast_pow]
        rfl
      have hget := pad_get n
      generalize hm : plen n - 8 = m at *
      go_wp2
      go_loopw [3, 5] (fun v i wr => ∃ k : Nat, k ≤ 8 ∧ i = .int .i64 (7 - (k : Int)) ∧ wr.ownsRow w.heap.size 5 1 v (m + k) (((padL n).take (m + k)).map (Value.int .u8)) ∧ Below w.heap.size w wr) (fun _ i _ => (intOf i + 1).toNat)
      case atStart => exact ⟨0, by omega, rfl, hown, hw⟩
      case round =>
        clear hown hw hd
        obtain ⟨k, hk, rfl, hown, hw⟩ := hrel
        obtain ⟨ao2, cap2, rfl⟩ := slen_own hown
        by_cases hlt : k < 8
        · obtain ⟨j, hj⟩ : ∃ j : Nat, 7 - (k : Int) = (j : Int) := ⟨7 - k, by omega⟩
          rw [hj]
          have hjk : k + j = 7 := by omega
          have hd : decide ((0 : Int) ≤ (j : Int)) = true := by simp
          have hb := hbit j (by omega)
          have hg := hget (m + k) (by omega)
          rw [if_neg (by omega), if_pos (by omega), show plen n - 1 - (m + k) = j by omega] at hg
          clear hbit hget
          have hown_ := hown.alloc (.cells #[.int .u8 (pbit n j)] 5)
          go_wp2_with (at_builtin; refine wpList_append_own _ rfl (.tmp 25) (.tmp 32) 30 rfl w.heap.size 5 i0 (.int .u8 0) 1 1 Tryd.underlying30 hi hz0 hz1 hz2 rfl (by decide) (.slice ao2 (m + k) cap2) (m + k) _ rfl hown_ ⟨wr.heap.size, 0, none⟩ 1 1 [.int .u8 (pbit n j)] rfl rfl (new_cell wr (pbit n j)) (by simp [Value.oneCell']) (by unfold maxLen; omega) (by omega) (by rw [size_alloc1]; exact Nat.le_succ_of_le hw.size) ?_)
          intro v' w2 hown2 hgrow _
          replace hw := (hw.alloc hw.size _).grown hgrow (by rw [size_alloc1]; exact Nat.le_succ_of_le hw.size) (fun k h => (hown_.lt k h).1)
          clear hown hown_ hgrow
          obtain ⟨ao', cap', rfl⟩ := slen_own hown2

          replace hown2 : w2.ownsRow w.heap.size 5 1 (.slice ao' (m + k + 1) cap') (m + k + 1) (((padL n).take (m + k + 1)).map (Value.int .u8)) := by
            rw [← take_next _ _ _ hg, List.map_append, List.map_take]; exact hown2
          clear hg hb
          go_wp2
          refine ⟨⟨k + 1, by omega, by rw [← hj]; congr 1; omega, hown2, hw⟩, ?_⟩
          simp [intOf]
        · obtain rfl : k = 8 := by omega
          have hd : decide ((0 : Int) ≤ 7 - (8 : Int)) = false := by decide
          have e8 : m + 8 = plen n := by omega
          have et : (padL n).take (m + 8) = padL n := by
            apply List.take_of_length_le
            unfold padL
            rw [padP_len]
            omega
          rw [et] at hown
          go_wp2
          go_ret
          exact ⟨_, rfl, by rw [← e8]; exact hown, hw⟩

end Go.Proofs.YtdlillgkgbfheaaDoor


namespace Go.Proofs.YtdlillgkgbfheaaDoor
set_option maxRecDepth 100000
open Go Go.RowKit Go.Sort
attribute [local go_sem] setCell_drewN alloc_drewN

/-- A slice that came in: its bytes, how many there may be, and no room behind nothing. -/
def BysN (W : World) (v : Value) (bs : List Int) : Prop := Bys W v bs ∧ bs.length ≤ 140737488351232 ∧ (∀ a l c, v = .slice a l c → a = none → c = 0)
theorem div_of {k n : Nat} (h : 64 * k ≤ n) (h2 : ¬ 64 * k + 64 ≤ n) : n / 64 = k := by omega
set_option maxRecDepth 100000 in
set_option maxHeartbeats 4000000 in
theorem r_fold (h bs : List Int) (hl : h.length = 8) (w : World) (v : Value) (hB : Bys w v bs) (hlim : bs.length ≤ 9223372036854775700) : Calls Tryd.prog 38 #[.agg (irow .u32 h), v] w fun e w' => e = .returned (.agg (irow .u32 (fol h bs (bs.length / 64)))) ∧ Below w.heap.size w w' := by
  have r0 := hp2_0 w (.cells (irow .u32 h) 60) (.cells (irow .u32 (zr 8)) 60)
  have r1 := hp2_1 w (.cells (irow .u32 h) 60) (.cells (irow .u32 (zr 8)) 60)
  have hw : Below w.heap.size w ((w.alloc (.cells (irow .u32 h) 60)).alloc (.cells (irow .u32 (zr 8)) 60)) := (((Below.refl _ _).alloc (Nat.le_refl _) _).alloc (by simp) _)

  obtain ⟨ao, cap, rfl, hl63, hc, hz⟩ := hB
  have hfl := fol_len hl bs
  generalize elen : bs.length = len at *
  go_enter Tryd.func38, Tryd.ntmps38
  go_wp2_with (first | (refine wpList_box rfl 60 _ rfl _ rfl (b23 _) ?_) | (refine wpList_alloc rfl 60 rfl (irow .u32 (zr 8)) z23 ?_) | fail)
  try simp only [size_alloc1, Act.put, List.setIfInBounds_toArray, List.set_cons_succ, List.set_cons_zero]
  generalize ((w.alloc (.cells (irow .u32 h) 60)).alloc (.cells (irow .u32 (zr 8)) 60)) = w0 at *
  go_loopw [5] (fun i wr => ∃ k : Nat, 64 * k ≤ len ∧ i = .int .i64 ((64 * k : Nat) : Int) ∧ wr.heap[w.heap.size]? = some (.cells (irow .u32 (fol h bs k)) 60 (0, 0)) ∧ wr.heap[w.heap.size + 1]? = some (.cells (irow .u32 (zr 8)) 60 (0, 0)) ∧ Below w.heap.size w wr) (fun i _ => len + 64 - (intOf i).toNat)
  case atStart => exact ⟨0, by omega, rfl, r0, r1, hw⟩
  case round =>
    clear r0 r1 hw
    obtain ⟨k, hk, rfl, r0, r1, hw⟩ := hrel
    have hq := hfl k
    by_cases hlt : 64 * k + 64 ≤ len
    · have hd : decide (((64 * k : Nat) : Int) + 64 ≤ (len : Int)) = true := by simp; omega
      have hcB := r_block (fol h bs k) (chunk bs k) hq (chunk_len bs k) (chunk_bd hz k)
      have hnext : fol h bs (k + 1) = blk (fol h bs k) (chunk bs k) := rfl
      have hch : prt (wat bs k) 64 = chunk bs k := rfl
      generalize ekk : 64 * k = kk at *
      go_wp2_with (first | (refine wpList_alloc rfl 61 rfl (irow .u8 (zr 64)) z24 ?_) | fail)
      have rx := hp1_0 wr (.cells (irow .u8 (zr 64)) 61)
      have hb : Below wr.heap.size wr (wr.alloc (.cells (irow .u8 (zr 64)) 61)) := (Below.refl _ _).alloc (Nat.le_refl _) _
      have yx := lt_of_row r1
      have yw := hw.size
      replace r0 := keep hb r0
      replace r1 := keep hb r1
      replace hw := Below.after hw hb
      clear hb
      try simp only [size_alloc1, Act.put, List.setIfInBounds_toArray, List.set_cons_succ, List.set_cons_zero]
      generalize wr.alloc (.cells (irow .u8 (zr 64)) 61) = w1 at *
      generalize wr.heap.size = gX at *
      rw [← prt_zero (wat bs k)] at rx
      go_loopw [7] (fun i wr => ∃ j : Nat, j ≤ 64 ∧ i = .int .i64 j ∧ wr.heap[gX]? = some (.cells (irow .u8 (prt (wat bs k) j)) 61 (0, 0)) ∧ wr.heap[w.heap.size]? = some (.cells (irow .u32 (fol h bs k)) 60 (0, 0)) ∧ wr.heap[w.heap.size + 1]? = some (.cells (irow .u32 (zr 8)) 60 (0, 0)) ∧ Below w.heap.size w wr) (fun i _ => 64 - (intOf i).toNat)
      case atStart => exact ⟨0, by omega, rfl, rx, r0, r1, hw⟩
      case round =>
        clear r0 r1 rx hw hd
        obtain ⟨j, hj, rfl, rx, r0, r1, hw⟩ := hrel
        by_cases hlj : j < 64
        · have hdj : decide ((j : Int) < 64) = true := by simp; omega
          obtain ⟨bb, off, rfl, hb1, hb2⟩ := hc (kk + j) (by omega)
          replace hb2 := (hw.cell (p := ⟨bb, off + (kk + j), none⟩) hb1).trans hb2
          have hset := prt_set (wat bs k) j hlj
          have hpl := prt_len (wat bs k) j
          have e : wat bs k j = bs.getD (kk + j) 0 := by unfold wat; rw [ekk]
          rw [e] at hset
          generalize bs.getD (kk + j) 0 = z at *
          have cz := irow_cell rx (j := j) (by omega)
          have hf := row_frozen rx j
          clear hc e hch hnext hcB
          replace hset := hide hset
          go_wp2
          refine ⟨⟨j + 1, by omega, by go_num, by rw [← hset.out]; exact irow_set rx j _, heap_other r0 (by omega), heap_other r1 (by omega), hw.setCell (show w.heap.size ≤ gX by omega) _⟩, ?_⟩
          simp [intOf]; omega
        · obtain rfl : j = 64 := by omega
          have hdj : decide ((64 : Int) < 64) = false := by decide
          rw [hch] at rx
          have hcl := chunk_len bs k
          clear hc hch
          go_wp2_with (first | (refine wpList_load_want rfl 60 _ rfl (w.heap.size) rfl 60 (irow .u32 (fol h bs k)) (0, 0) _ r0 Tryd.underlying60 rfl (info23 _ hq) ?_) | (refine wpList_load_want rfl 61 _ rfl (gX) rfl 61 (irow .u8 (chunk bs k)) (0, 0) _ rx Tryd.underlying61 rfl (info24 _ hcl) ?_) | fail)
          refine (hcB.at _).mono ?_
          rintro e_ w5 ⟨rfl, hb⟩
          replace r0 := keep hb r0
          replace r1 := keep hb r1
          replace hw := Below.after hw hb
          clear hb hcB
          have hbl := blk_len (fol h bs k) (chunk bs k)
          rw [← hnext] at hbl ⊢
          go_wp2_with (first | (refine wpList_store_row rfl 60 _ _ rfl (w.heap.size) (irow .u32 (fol h bs (k + 1))) rfl rfl 60 _ r0 (info23 _ hbl) (fit8 _ _ hq hbl) (irow_one _ _) ?_) | fail)
          refine ⟨⟨k + 1, by omega, by congr 1; omega, setRow_heap w5 (w.heap.size) _ _ _ _ r0, (setRow_other w5 (w.heap.size) (w.heap.size + 1) _ (by omega)).trans r1, below_setRow hw (Nat.le_refl _) _⟩, ?_⟩
          simp [intOf]; omega
    · have hd : decide (((64 * k : Nat) : Int) + 64 ≤ (len : Int)) = false := by simp; omega
      have ek := div_of hk hlt
      rw [← ek] at r0 hq
      go_wp2_with (first | (refine wpList_load_want rfl 60 _ rfl (w.heap.size) rfl 60 (irow .u32 (fol h bs (len / 64))) (0, 0) _ r0 Tryd.underlying60 rfl (info23 _ hq) ?_) | (refine wpList_store_row rfl 60 _ _ rfl (w.heap.size + 1) (irow .u32 (fol h bs (len / 64))) rfl rfl 60 _ r1 (info23 _ hq) (fit8 _ _ (zr_len 8) hq) (irow_one _ _) ?_) | fail)
      replace r1 := setRow_heap wr (w.heap.size + 1) _ (irow .u32 (fol h bs (len / 64))) _ _ r1
      replace hw := below_setRow hw (show w.heap.size ≤ w.heap.size + 1 by omega) (irow .u32 (fol h bs (len / 64)))
      generalize wr.setRow (w.heap.size + 1) (irow .u32 (fol h bs (len / 64))) = w9 at *
      exact bodyPost_ret (v := .agg (irow .u32 (fol h bs (len / 64)))) (results_cell_row Tryd.results38 _ _ (w.heap.size + 1) _ _ _ _ rfl r1 Tryd.underlying60 rfl (info23 _ hq)) rfl ⟨rfl, hw⟩
end Go.Proofs.YtdlillgkgbfheaaDoor


namespace Go.Proofs.YtdlillgkgbfheaaDoor
set_option maxRecDepth 100000
open Go Go.RowKit Go.Sort
attribute [local go_sem] setCell_drewN alloc_drewN

/-- The hash of bytes. -/
def sumW (bs : List Int) : List Int := fol sl (bs ++ padL bs.length) ((bs ++ padL bs.length).length / 64)
def sumL (bs : List Int) : List Int := byts (sumW bs)
theorem sumW_len (bs : List Int) : (sumW bs).length = 8 := fol_len rfl _ _
theorem sumW_bd (bs : List Int) : ∀ x ∈ sumW bs, 0 ≤ x ∧ x < 4294967296 := fol_bd sl_bd _ _
theorem sumL_len (bs : List Int) : (sumL bs).length = 32 := byts_len _
theorem padL_len (n : Nat) : (padL n).length = plen n := padP_len n 8
theorem bys_none {W : World} {ao : Option Addr} {cap : Nat} {bs : List Int} (hB : Bys W (.slice ao bs.length cap) bs) (hn : ∀ a l c, Value.slice ao bs.length cap = .slice a l c → a = none → c = 0) : ao = none → bs.length = 0 ∧ cap = 0 := by
  intro h
  refine ⟨?_, hn _ _ _ rfl h⟩
  obtain ⟨ao', cap', e, _, hc, _⟩ := hB
  cases e
  rcases Nat.eq_zero_or_pos bs.length with e | e
  · exact e
  · obtain ⟨b, off, e', _⟩ := hc 0 e
    rw [h] at e'; cases e'
theorem bys_cells {W : World} {ao : Option Addr} {cap : Nat} {bs : List Int} (hB : Bys W (.slice ao bs.length cap) bs) : ∀ ad, ao = some ad → ∀ j u, (bs.map (Value.int .u8))[j]? = some u → W.cell? (ad.add j) = some u := by
  obtain ⟨ao', cap', e, _, hc, _⟩ := hB
  cases e
  intro ad had j u hu
  have hj : j < bs.length := by have := (List.getElem?_eq_some_iff.1 hu).1; simpa using this
  obtain ⟨b, off, e', hb, hcl⟩ := hc j hj
  obtain rfl : ad = ⟨b, off, none⟩ := Option.some.inj (had.symm.trans e')
  have : u = .int .u8 (bs.getD j 0) := by
    simp only [List.getElem?_map, List.getElem?_eq_getElem hj, Option.map_some, Option.some.injEq] at hu
    rw [← hu, List.getD_eq_getElem?_getD, List.getElem?_eq_getElem hj]; rfl
  rw [this, addr_add]
  exact hcl
theorem Bys.of_own {W : World} {b n : Nat} {v : Value} {l : List Int} (h : W.ownsRow b 5 1 v n (l.map (Value.int .u8))) (hl : l.length ≤ 9223372036854775807) (hz : ∀ z ∈ l, 0 ≤ z ∧ z < 256) : Bys W v l := by
  obtain ⟨h1, ⟨rfl, rfl⟩ | ⟨g, cap, cur, rfl, hb, hg, hn, hm, hs, ht⟩⟩ := h
  · have : l = [] := List.eq_nil_of_length_eq_zero (by simpa using h1)
    subst this
    exact ⟨none, 0, rfl, by decide, fun j hj => by simp at hj, by simp⟩
  · have hln : l.length = n := by simpa using h1
    refine ⟨_, cap, by rw [hln], hl, fun j hj => ⟨g, 0, rfl, lt_of_row hg, ?_⟩, hz⟩
    rw [Nat.zero_add, cell_of_row _ _ _ _ _ _ hg]
    have h2 := congrArg (fun q => q[j]?) ht
    simp only [Nat.mul_one] at h2
    rw [List.getElem?_take_of_lt (by omega), List.getElem?_map, List.getElem?_eq_getElem hj] at h2
    rw [← Array.getElem?_toList, h2, List.getD_eq_getElem?_getD, List.getElem?_eq_getElem hj]
    rfl
theorem own_keep {W W' : World} {b n : Nat} {T : TypeId} {v : Value} {xs : List Value} (h : W.ownsRow b T 1 v n xs) (hb : Below W.heap.size W W') : W'.ownsRow b T 1 v n xs := by
  obtain ⟨h1, h2 | ⟨g, cap, cur, rfl, hb2, hg, h3⟩⟩ := h
  · exact ⟨h1, .inl h2⟩
  · exact ⟨h1, .inr ⟨g, cap, cur, rfl, hb2, keep hb hg, h3⟩⟩
theorem both_bd {a b : List Int} (ha : ∀ z ∈ a, 0 ≤ z ∧ z < 256) (hb : ∀ z ∈ b, 0 ≤ z ∧ z < 256) : ∀ z ∈ a ++ b, 0 ≤ z ∧ z < 256 := fun z hz => (List.mem_append.1 hz).elim (ha z) (hb z)
set_option maxRecDepth 100000 in
set_option maxHeartbeats 4000000 in
theorem r_sum (bs : List Int) (w : World) (v : Value) (hN : BysN w v bs) : Calls Tryd.prog 27 #[v] w fun e w' => e = .returned (.agg (irow .u8 (sumL bs))) ∧ Below w.heap.size w w' := by
  obtain ⟨hB, hlim, hnil⟩ := hN
  have r0 := hp1_0 w (.cells (irow .u8 (zr 32)) 23)
  have hw : Below w.heap.size w (w.alloc (.cells (irow .u8 (zr 32)) 23)) := ((Below.refl _ _).alloc (Nat.le_refl _) _)

  replace hB := hB.keep hw
  have hz := hB
  obtain ⟨ao, cap, rfl, _, _, hz⟩ := hz
  have hnone := bys_none hB hnil
  obtain ⟨i0, hi, hz0, hz1, hz2⟩ := info8
  have hpb := plen_bd bs.length
  have hpl := padL_len bs.length
  have cP := r_pad bs.length (by omega)
  clear hnil
  go_enter Tryd.func27, Tryd.ntmps27
  go_wp2_with (first | (refine wpList_alloc rfl 23 rfl (irow .u8 (zr 32)) zkey ?_) | (at_make; refine wpList_make_own _ rfl _ _ 30 rfl (w.heap.size + 1) 5 i0 (.int .u8 0) 1 Tryd.underlying30 hi hz0 hz1 _ _ _ (bs.length + 72) rfl rfl (by omega) (by rw [hz2]; omega) (by unfold maxLen; omega) (by rw [size_alloc1]; exact Nat.le_refl _) ?_) | fail)
  try simp only [size_alloc1]
  have ysz : (w.alloc (.cells (irow .u8 (zr 32)) 23)).heap.size = w.heap.size + 1 := size_alloc1 _ _
  generalize (w.alloc (.cells (irow .u8 (zr 32)) 23)) = w0 at *
  intro w1 hown hgr
  have hbel : Below w0.heap.size w0 w1 := (Below.refl _ _).grown hgr (Nat.le_refl _) (fun k h => by cases h)
  replace r0 := keep hbel r0
  replace hB := hB.keep hbel
  replace hw := Below.after hw hbel
  clear hbel hgr
  have hcell := bys_cells hB
  go_wp2_with (at_builtin; refine wpList_append_fits_any _ rfl (.tmp 8) (.tmp 9) 30 rfl (w.heap.size + 1) 5 i0 1 Tryd.underlying30 hi hz1 (w.heap.size + 1) 0 (bs.length + 72) [] rfl hown ao bs.length cap (bs.map (Value.int .u8)) rfl (by simp) hnone hcell (ints_one .u8 bs) (by omega) ?_)
  intro w2 hown2 hgr
  have lr0 := lt_of_row r0
  replace r0 : w2.heap[w.heap.size]? = _ := (hgr.block _ lr0 (by intro e; injection e with e; omega)).trans r0
  replace hw := hw.grown hgr hw.size (fun k h => by injection h with h; omega)
  clear hgr hcell hown hB hnone lr0
  go_wp2_with (fail)
  refine (cP w2).mono ?_
  rintro e_ w3 ⟨vp, rfl, hp, hb⟩
  replace r0 := keep hb r0
  replace hown2 := own_keep hown2 hb
  have hs2 := hw.size
  replace hw := Below.after hw hb
  clear hb cP
  obtain ⟨_, ⟨_, h0⟩ | ⟨gp, capp, curp, rfl, hgp, _⟩⟩ := id hp
  · omega
  have hcell := hp.cells (g := gp) rfl
  go_wp2_with (at_builtin; refine wpList_append_fits_any _ rfl (.tmp 11) (.tmp 15) 30 rfl (w.heap.size + 1) 5 i0 1 Tryd.underlying30 hi hz1 (w.heap.size + 1) bs.length (bs.length + 72) _ rfl hown2 (some ⟨gp, 0, none⟩) (plen bs.length) capp ((padL bs.length).map (Value.int .u8)) rfl (by simp [hpl]) (by intro h; cases h) (fun ad had => by cases had; exact hcell) (ints_one .u8 _) (by omega) ?_)
  intro w4 hown4 hgr
  have lr0 := lt_of_row r0
  replace r0 : w4.heap[w.heap.size]? = _ := (hgr.block _ lr0 (by intro e; injection e with e; omega)).trans r0
  replace hw := hw.grown hgr hw.size (fun k h => by injection h with h; omega)
  clear hgr hcell hown2 hp lr0
  have hwl : (bs ++ padL bs.length).length = bs.length + plen bs.length := by rw [List.length_append, hpl]
  have hbz := both_bd hz (padL_bd bs.length)
  rw [← List.map_append] at hown4
  have hBw := Bys.of_own hown4 (by omega) hbz
  clear hown4
  have hfin : sumL bs = byts (fol sl (bs ++ padL bs.length) ((bs ++ padL bs.length).length / 64)) := rfl
  have hFl : (fol sl (bs ++ padL bs.length) ((bs ++ padL bs.length).length / 64)).length = 8 := fol_len rfl _ _
  have cB := r_bytes _ hFl (fol_bd sl_bd (bs ++ padL bs.length) _)
  rw [← hfin] at cB
  have cF := fun (W : World) (x : Value) (h : Bys W x (bs ++ padL bs.length)) => r_fold sl (bs ++ padL bs.length) rfl W x h (by omega)
  generalize fol sl (bs ++ padL bs.length) ((bs ++ padL bs.length).length / 64) = FW at *
  clear hfin
  have hSl := sumL_len bs
  clear hpl hwl hbz hpb hFl
  go_wp2_with (fail)
  refine (r_start.at _).mono ?_
  rintro e_ w5 ⟨rfl, hb⟩
  replace r0 := keep hb r0
  replace hBw := hBw.keep hb
  replace hw := Below.after hw hb
  clear hb
  go_wp2_with (fail)
  refine (cF w5 _ hBw).mono ?_
  rintro e_ w6 ⟨rfl, hb⟩
  replace r0 := keep hb r0
  replace hw := Below.after hw hb
  clear hb hBw
  go_wp2_with (fail)
  refine (cB.at _).mono ?_
  rintro e_ w7 ⟨rfl, hb⟩
  replace r0 := keep hb r0
  replace hw := Below.after hw hb
  clear hb
  go_wp2_with (first | (refine wpList_store_row rfl 23 _ _ rfl (w.heap.size) (irow .u8 (sumL bs)) rfl rfl 23 _ r0 (infok8 _ hSl) (fit32 _ _ (zr_len 32) hSl) (irow_one _ _) ?_) | fail)
  replace r0 := setRow_heap w7 (w.heap.size) _ (irow .u8 (sumL bs)) _ _ r0
  replace hw := below_setRow hw (Nat.le_refl _) (irow .u8 (sumL bs))
  generalize w7.setRow (w.heap.size) (irow .u8 (sumL bs)) = w9 at *
  exact bodyPost_ret (v := .agg (irow .u8 (sumL bs))) (results_cell_row Tryd.results27 _ _ (w.heap.size) _ _ _ _ rfl r0 Tryd.underlying23 rfl (infok8 _ hSl)) rfl ⟨rfl, hw⟩

end Go.Proofs.YtdlillgkgbfheaaDoor


namespace Go.Proofs.YtdlillgkgbfheaaDoor
set_option maxRecDepth 100000
open Go Go.RowKit Go.Sort
attribute [local go_sem] setCell_drewN alloc_drewN

/-- An append whose row is either the old one or a new block. -/
theorem wpList_append_two {P : Program} (w : World) {ops : Array Oper} {rest : List Oper} {o : Oper} {a : Act} {Q : Exit → Act → World → Prop} (hgd : o.guard = none) (s x : Operand) (t : TypeId)
    (ho : o.op = .call { callee := .builtin .append, args := #[s, x], argTypes := #[t, t] })
    (base : Nat) (e : TypeId) (i : TypeInfo) (z : Value) (ht : P.underlying t = some (.slice e)) (hi : P.info? e = some i) (hz : i.zero = some z)
    (hsize : i.size = 1) (hby : i.bytes = 1) (hzs : z.cells.size = 1)
    (g n cap : Nat) (xs : List Value) (hs : a.eval s = .slice (some ⟨g, 0, none⟩) n cap) (hown : w.ownsRow base e 1 (.slice (some ⟨g, 0, none⟩) n cap) n xs)
    (ad : Addr) (m c : Nat) (news : List Value) (hx : a.eval x = .slice (some ad) m c) (hl : news.length = m * 1) (hnews : ∀ j u, news[j]? = some u → w.cell? (ad.add j) = some u) (h1 : ∀ u ∈ news, u.oneCell' = true)
    (h63 : n + m ≤ maxLen) (hbytes : (n + m) * 1 ≤ 140737488355328) (hbase : base ≤ w.heap.size)
    (h : ∀ g' cap' w', w'.ownsRow base e 1 (.slice (some ⟨g', 0, none⟩) (n + m) cap') (n + m) (xs ++ news) → w.grownBy w' (some g) → (g' = g ∨ g' = w.heap.size) → wpList P ops Q rest (a.put o.dst (.slice (some ⟨g', 0, none⟩) (n + m) cap')) w') : wpList P ops Q (o :: rest) a w := by
  refine wpList_plain hgd fun K hK => ?_
  obtain ⟨v', w', hr, h2, h3, _⟩ := run_append_own (P := P) w base t o.type e i z 1 1 ht hi hz hsize hby hzs (by decide) _ n xs hown ad m c news hl hnews h1 h63 hbytes hbase
  have key : ∃ g' cap', v' = .slice (some ⟨g', 0, none⟩) (n + m) cap' ∧ (g' = g ∨ g' = w.heap.size) := by
    rcases hown.2 with ⟨hv, _⟩ | ⟨g1, cap1, cur, hv, hbg, hg, hnc, hcm, hcs, htake⟩
    · cases hv
    · cases hv
      by_cases hroom : n + m ≤ cap
      · have hr2 := run_append_room (P := P) w t o.type e i ht hi g n cap cur hg ad m c news (by rw [hsize]; exact hl) hnews h1 hroom (by rw [hsize, hl, hcs]; omega)
        have := hr.symm.trans hr2
        injection this with e1 e2
        exact ⟨g, cap, e1, .inl rfl⟩
      · have holds : ∀ j u, xs[j]? = some u → w.cell? ((⟨g, 0, none⟩ : Addr).add j) = some u := hown.cells (g := g) rfl
        have hr2 := run_append_grow (P := P) w t o.type e i z ht hi hz ⟨g, 0, none⟩ n cap xs (by rw [hsize]; exact hown.1) holds ad m c news (by rw [hsize]; exact hl) hnews (by omega) (by simp only [maxLen] at h63; omega) (growslice_fits (by omega) (by rw [hby]; exact hbytes))
        have := hr.symm.trans hr2
        injection this with e1 e2
        exact ⟨_, _, e1, .inr rfl⟩
  obtain ⟨g', cap', rfl, hgg⟩ := key
  unfold Oper.wp execOp
  simp only [ho, resolve, invoke, builtin, Sem.run_bind, Sem.run_pure, Result.andThen_ok, List.map_toArray, List.map_cons, List.map_nil, hs, hx, hr]
  exact hK _ _ (h g' cap' w' h2 h3 hgg)
theorem grown_trans {a b c : World} {row : Option Nat} {g : Nat} (h : a.grownBy b (some g)) (h2 : b.grownBy c row) (hr : row = none ∨ row = some g ∨ ∃ k, row = some k ∧ a.heap.size ≤ k) : a.grownBy c (some g) := by
  refine ⟨h2.os.trans h.os, h2.tape.trans h.tape, h2.output.trans h.output, Nat.le_trans h.size h2.size, fun k hk hn => ?_⟩
  have h3 := h.size
  refine (h2.block k (by omega) ?_).trans (h.block k hk hn)
  rcases hr with rfl | rfl | ⟨q, rfl, hq⟩
  · simp
  · exact hn
  · intro e; injection e with e; omega
theorem grown_setCell {a b : World} {g j : Nat} {v : Value} (h : a.grownBy b (some g)) : a.grownBy (b.setCell ⟨g, j, none⟩ v) (some g) := by
  refine ⟨h.os, h.tape, h.output, ?_, fun k hk hn => ?_⟩
  · have e : (b.setCell ⟨g, j, none⟩ v).heap.size = b.heap.size := by simp [World.setCell]
    rw [e]; exact h.size
  · rw [heap_setCell_other b ⟨g, j, none⟩ k v (fun e => hn (by rw [e]))]
    exact h.block k hk hn
end Go.Proofs.YtdlillgkgbfheaaDoor

