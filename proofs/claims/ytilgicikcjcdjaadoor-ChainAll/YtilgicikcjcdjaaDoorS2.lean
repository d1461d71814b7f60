import Derived.Test.YtilgicikcjcdjaaDoorProg
import Derived.WalkKit
import Derived.WalkSpells
import Derived.WalkLawsBesides
import Derived.Lib.QuietBelow
import Derived.BigQuiet
import Derived.Test.YtilgicikcjcdjaaDoorS0
import Derived.Test.YtilgicikcjcdjaaDoorS1
namespace Go.Proofs.YtilgicikcjcdjaaDoor
set_option maxRecDepth 100000
open Go Go.RowKit Go.Sort
attribute [local go_sem] setCell_drewN alloc_drewN

/-- How long a slice is. -/
def slen : Value → Nat
  | .slice _ l _ => l
  | _ => 0
theorem slen_own {W : World} {b : Nat} {T : TypeId} {sz : Nat} {v : Value} {n : Nat} {xs : List Value} (h : W.ownsRow b T sz v n xs) : ∃ ao cap, v = .slice ao n cap := by
  obtain ⟨_, ⟨rfl, rfl⟩ | ⟨g, cap, cur, rfl, _⟩⟩ := h
  · exact ⟨_, _, rfl⟩
  · exact ⟨_, _, rfl⟩
set_option maxRecDepth 100000 in
theorem info8 : ∃ i, Tryd.prog.info? 5 = some i ∧ i.zero = some (.int .u8 0) ∧ i.size = 1 ∧ i.bytes = 1 := ⟨_, rfl, rfl, rfl, rfl⟩
/-- The beginning of the padding, by its length. -/
theorem pad_first (n : Nat) : (padL n).take 1 = [128] := by
  have hb := plen_bd n
  obtain ⟨m, hm⟩ : ∃ m, plen n = m + 1 := ⟨plen n - 1, by omega⟩
  simp [padL, padP, hm, List.range_succ_eq_map]
theorem pad_get (n j : Nat) (hj : j < plen n) : (padL n)[j]? = some (if j = 0 then 128 else if plen n - 8 ≤ j then pbit n (plen n - 1 - j) else 0) := by
  simp [padL, padP, hj]
theorem take_next {α : Type} (l : List α) (k : Nat) (x : α) (h : l[k]? = some x) : l.take k ++ [x] = l.take (k + 1) := by
  rw [List.take_add_one, h]; rfl
theorem new_cell (wr : World) (x : Int) : ∀ j u, [Value.int .u8 x][j]? = some u → (wr.alloc (.cells #[.int .u8 x] 5)).cell? ((⟨wr.heap.size, 0, none⟩ : Addr).add j) = some u := by
  intro j u hu
  have hj : j = 0 := by
    have := (List.getElem?_eq_some_iff.1 hu).1
    simp at this
    exact this
  subst hj
  simp at hu
  subst hu
  rw [addr_add]
  have hg : (wr.alloc (.cells #[.int .u8 x] 5)).heap[wr.heap.size]? = some (.cells #[.int .u8 x] 5 (0, 0)) := hp1_0 wr _
  simp only [World.cell?, hg]
  rfl
set_option maxHeartbeats 2000000 in
theorem r_pad (n : Nat) (hn : n < 18446744073709551616) (w : World) : Calls Tryd.prog 33 #[.int .u64 (n : Int)] w fun e w' => ∃ v, e = .returned v ∧ w'.ownsRow w.heap.size 5 1 v (plen n) ((padL n).map (Value.int .u8)) ∧ Below w.heap.size w w' := by
  have hpb := plen_bd n
  obtain ⟨i0, hi, hz0, hz1, hz2⟩ := info8
  have hown0 : (w.alloc (.cells #[.int .u8 128] 5)).ownsRow w.heap.size 5 1 (.slice (some ⟨w.heap.size, 0, none⟩) 1 1) 1 (((padL n).take 1).map (Value.int .u8)) := by
    rw [pad_first]
    refine ⟨rfl, .inr ⟨w.heap.size, 1, #[.int .u8 128], rfl, Nat.le_refl _, hp1_0 w _, Nat.le_refl _, by decide, rfl, rfl⟩⟩
  have HW : Below w.heap.size w (w.alloc (.cells #[.int .u8 128] 5)) := (Below.refl _ _).alloc (Nat.le_refl _) _
  go_enter Tryd.func33, Tryd.ntmps33
  go_wp2
  generalize w.alloc (.cells #[.int .u8 128] 5) = w0 at *
  go_loopw [3] (fun v wr => ∃ k : Nat, 1 ≤ k ∧ k ≤ plen n - 8 ∧ wr.ownsRow w.heap.size 5 1 v k (((padL n).take k).map (Value.int .u8)) ∧ Below w.heap.size w wr) (fun v _ => 72 - slen v)
  case atStart => exact ⟨1, by omega, by omega, hown0, HW⟩
  case round =>
    clear hown0 HW
    obtain ⟨k, hk0, hk, hown, hw⟩ := hrel
    obtain ⟨ao, cap, rfl⟩ := slen_own hown
    by_cases hlt : k < plen n - 8
    · have hd : ((n : Int) % 64 + (k : Int) + 8) % 64 ≠ 0 := by unfold plen at hlt; omega
      have hown_ := hown.alloc (.cells #[.int .u8 0] 5)
      go_wp2_with (at_builtin; refine wpList_append_own _ rfl (.tmp 16) (.tmp 17) 67 rfl w.heap.size 5 i0 (.int .u8 0) 1 1 Tryd.underlying67 hi hz0 hz1 hz2 rfl (by decide) (.slice ao k cap) k _ rfl hown_ ⟨wr.heap.size, 0, none⟩ 1 1 [.int .u8 0] rfl rfl (new_cell wr 0) (by simp [Value.oneCell']) (by unfold maxLen; omega) (by omega) (by rw [size_alloc1]; exact Nat.le_succ_of_le hw.size) ?_)
      intro v' w2 hown2 hgrow _
      replace hw := (hw.alloc hw.size _).grown hgrow (by rw [size_alloc1]; exact Nat.le_succ_of_le hw.size) (fun k h => (hown_.lt k h).1)
      clear hown hown_ hgrow
      obtain ⟨ao', cap', rfl⟩ := slen_own hown2

      replace hown2 : w2.ownsRow w.heap.size 5 1 (.slice ao' (k + 1) cap') (k + 1) (((padL n).take (k + 1)).map (Value.int .u8)) := by
        rw [← take_next _ _ (0 : Int) (by rw [pad_get n k (by omega), if_neg (by omega), if_neg (by omega)]), List.map_append, List.map_take]; exact hown2
      go_wp2
      refine ⟨⟨k + 1, by omega, by omega, hown2, hw⟩, ?_⟩
      simp [slen]; omega
    · obtain rfl : k = plen n - 8 := by omega
      have hd : ((n : Int) % 64 + ((plen n - 8 : Nat) : Int) + 8) % 64 = 0 := by unfold plen; omega
      have hbit : ∀ k : Nat, k < 8 → IntKind.u64.wrap ((n : Int) * 8) / 2 ^ (8 * k) % 256 = pbit n k := fun k _ => by
        unfold pbit
        rw [IntKind.wrap_u64, Int.mul_comm, Int.natCast_emod, Int.natCast_ediv, Int.natCast_emod, Int.natCast_mul, Int.natCast_pow]
        rfl
      have hget := pad_get n
      generalize hm : plen n - 8 = m at *
      go_wp2
      go_loopw [3, 5] (fun v i wr => ∃ k : Nat, k ≤ 8 ∧ i = .int .i64 (7 - (k : Int)) ∧ wr.ownsRow w.heap.size 5 1 v (m + k) (((padL n).take (m + k)).map (Value.int .u8)) ∧ Below w.heap.size w wr) (fun _ i _ => (intOf i + 1).toNat)
      case atStart => exact ⟨0, by omega, rfl, hown, hw⟩
      case round =>
        clear hown hw hd
        obtain ⟨k, hk, rfl, hown, hw⟩ := hrel
        obtain ⟨ao2, cap2, rfl⟩ := slen_own hown
        by_cases hlt : k < 8
        · obtain ⟨j, hj⟩ : ∃ j : Nat, 7 - (k : Int) = (j : Int) := ⟨7 - k, by omega⟩
          rw [hj]
          have hjk : k + j = 7 := by omega
          have hd : decide ((0 : Int) ≤ (j : Int)) = true := by simp
          have hb := hbit j (by omega)
          have hg := hget (m + k) (by omega)
          rw [if_neg (by omega), if_pos (by omega), show plen n - 1 - (m + k) = j by omega] at hg
          clear hbit hget
          have hown_ := hown.alloc (.cells #[.int .u8 (pbit n j)] 5)
          go_wp2_with (at_builtin; refine wpList_append_own _ rfl (.tmp 25) (.tmp 32) 67 rfl w.heap.size 5 i0 (.int .u8 0) 1 1 Tryd.underlying67 hi hz0 hz1 hz2 rfl (by decide) (.slice ao2 (m + k) cap2) (m + k) _ rfl hown_ ⟨wr.heap.size, 0, none⟩ 1 1 [.int .u8 (pbit n j)] rfl rfl (new_cell wr (pbit n j)) (by simp [Value.oneCell']) (by unfold maxLen; omega) (by omega) (by rw [size_alloc1]; exact Nat.le_succ_of_le hw.size) ?_)
          intro v' w2 hown2 hgrow _
          replace hw := (hw.alloc hw.size _).grown hgrow (by rw [size_alloc1]; exact Nat.le_succ_of_le hw.size) (fun k h => (hown_.lt k h).1)
          clear hown hown_ hgrow
          obtain ⟨ao', cap', rfl⟩ := slen_own hown2

          replace hown2 : w2.ownsRow w.heap.size 5 1 (.slice ao' (m + k + 1) cap') (m + k + 1) (((padL n).take (m + k + 1)).map (Value.int .u8)) := by
            rw [← take_next _ _ _ hg, List.map_append, List.map_take]; exact hown2
          clear hg hb
          go_wp2
          refine ⟨⟨k + 1, by omega, by rw [← hj]; congr 1; omega, hown2, hw⟩, ?_⟩
          simp [intOf]
        · obtain rfl : k = 8 := by omega
          have hd : decide ((0 : Int) ≤ 7 - (8 : Int)) = false := by decide
          have e8 : m + 8 = plen n := by omega
          have et : (padL n).take (m + 8) = padL n := by
            apply List.take_of_length_le
            unfold padL
            rw [padP_len]
            omega
          rw [et] at hown
          go_wp2
          go_ret
          exact ⟨_, rfl, by rw [← e8]; exact hown, hw⟩

end Go.Proofs.YtilgicikcjcdjaaDoor


namespace Go.Proofs.YtilgicikcjcdjaaDoor
set_option maxRecDepth 100000
open Go Go.RowKit Go.Sort
attribute [local go_sem] setCell_drewN alloc_drewN

/-- A slice that came in: its bytes, how many there may be, and no room behind nothing. -/
def BysN (W : World) (v : Value) (bs : List Int) : Prop := Bys W v bs ∧ bs.length ≤ 140737488351232 ∧ (∀ a l c, v = .slice a l c → a = none → c = 0)
theorem div_of {k n : Nat} (h : 64 * k ≤ n) (h2 : ¬ 64 * k + 64 ≤ n) : n / 64 = k := by omega
set_option maxRecDepth 100000 in
set_option maxHeartbeats 4000000 in
theorem r_fold (h bs : List Int) (hl : h.length = 8) (w : World) (v : Value) (hB : Bys w v bs) (hlim : bs.length ≤ 9223372036854775700) : Calls Tryd.prog 35 #[.agg (irow .u32 h), v] w fun e w' => e = .returned (.agg (irow .u32 (fol h bs (bs.length / 64)))) ∧ Below w.heap.size w w' := by
  have r0 := hp2_0 w (.cells (irow .u32 h) 77) (.cells (irow .u32 (zr 8)) 77)
  have r1 := hp2_1 w (.cells (irow .u32 h) 77) (.cells (irow .u32 (zr 8)) 77)
  have hw : Below w.heap.size w ((w.alloc (.cells (irow .u32 h) 77)).alloc (.cells (irow .u32 (zr 8)) 77)) := (((Below.refl _ _).alloc (Nat.le_refl _) _).alloc (by simp) _)

  obtain ⟨ao, cap, rfl, hl63, hc, hz⟩ := hB
  have hfl := fol_len hl bs
  generalize elen : bs.length = len at *
  go_enter Tryd.func35, Tryd.ntmps35
  go_wp2_with (first | (refine wpList_box rfl 77 _ rfl _ rfl (b23 _) ?_) | (refine wpList_alloc rfl 77 rfl (irow .u32 (zr 8)) z23 ?_) | fail)
  try simp only [size_alloc1, Act.put, List.setIfInBounds_toArray, List.set_cons_succ, List.set_cons_zero]
  generalize ((w.alloc (.cells (irow .u32 h) 77)).alloc (.cells (irow .u32 (zr 8)) 77)) = w0 at *
  go_loopw [5] (fun i wr => ∃ k : Nat, 64 * k ≤ len ∧ i = .int .i64 ((64 * k : Nat) : Int) ∧ wr.heap[w.heap.size]? = some (.cells (irow .u32 (fol h bs k)) 77 (0, 0)) ∧ wr.heap[w.heap.size + 1]? = some (.cells (irow .u32 (zr 8)) 77 (0, 0)) ∧ Below w.heap.size w wr) (fun i _ => len + 64 - (intOf i).toNat)
  case atStart => exact ⟨0, by omega, rfl, r0, r1, hw⟩
  case round =>
    clear r0 r1 hw
    obtain ⟨k, hk, rfl, r0, r1, hw⟩ := hrel
    have hq := hfl k
    by_cases hlt : 64 * k + 64 ≤ len
    · have hd : decide (((64 * k : Nat) : Int) + 64 ≤ (len : Int)) = true := by simp; omega
      have hcB := r_block (fol h bs k) (chunk bs k) hq (chunk_len bs k) (chunk_bd hz k)
      have hnext : fol h bs (k + 1) = blk (fol h bs k) (chunk bs k) := rfl
      have hch : prt (wat bs k) 64 = chunk bs k := rfl
      generalize ekk : 64 * k = kk at *
      go_wp2_with (first | (refine wpList_alloc rfl 78 rfl (irow .u8 (zr 64)) z24 ?_) | fail)
      have rx := hp1_0 wr (.cells (irow .u8 (zr 64)) 78)
      have hb : Below wr.heap.size wr (wr.alloc (.cells (irow .u8 (zr 64)) 78)) := (Below.refl _ _).alloc (Nat.le_refl _) _
      have yx := lt_of_row r1
      have yw := hw.size
      replace r0 := keep hb r0
      replace r1 := keep hb r1
      replace hw := Below.after hw hb
      clear hb
      try simp only [size_alloc1, Act.put, List.setIfInBounds_toArray, List.set_cons_succ, List.set_cons_zero]
      generalize wr.alloc (.cells (irow .u8 (zr 64)) 78) = w1 at *
      generalize wr.heap.size = gX at *
      rw [← prt_zero (wat bs k)] at rx
      go_loopw [7] (fun i wr => ∃ j : Nat, j ≤ 64 ∧ i = .int .i64 j ∧ wr.heap[gX]? = some (.cells (irow .u8 (prt (wat bs k) j)) 78 (0, 0)) ∧ wr.heap[w.heap.size]? = some (.cells (irow .u32 (fol h bs k)) 77 (0, 0)) ∧ wr.heap[w.heap.size + 1]? = some (.cells (irow .u32 (zr 8)) 77 (0, 0)) ∧ Below w.heap.size w wr) (fun i _ => 64 - (intOf i).toNat)
      case atStart => exact ⟨0, by omega, rfl, rx, r0, r1, hw⟩
      case round =>
        clear r0 r1 rx hw hd
        obtain ⟨j, hj, rfl, rx, r0, r1, hw⟩ := hrel
        by_cases hlj : j < 64
        · have hdj : decide ((j : Int) < 64) = true := by simp; omega
          obtain ⟨bb, off, rfl, hb1, hb2⟩ := hc (kk + j) (by omega)
          replace hb2 := (hw.cell (p := ⟨bb, off + (kk + j), none⟩) hb1).trans hb2
          have hset := prt_set (wat bs k) j hlj
          have hpl := prt_len (wat bs k) j
          have e : wat bs k j = bs.getD (kk + j) 0 := by unfold wat; rw [ekk]
          rw [e] at hset
          generalize bs.getD (kk + j) 0 = z at *
          have cz := irow_cell rx (j := j) (by omega)
          have hf := row_frozen rx j
          clear hc e hch hnext hcB
          replace hset := hide hset
          go_wp2
          refine ⟨⟨j + 1, by omega, by go_num, by rw [← hset.out]; exact irow_set rx j _, heap_other r0 (by omega), heap_other r1 (by omega), hw.setCell (show w.heap.size ≤ gX by omega) _⟩, ?_⟩
          simp [intOf]; omega
        · obtain rfl : j = 64 := by omega
          have hdj : decide ((64 : Int) < 64) = false := by decide
          rw [hch] at rx
          have hcl := chunk_len bs k
          clear hc hch
          go_wp2_with (first | (refine wpList_load_want rfl 77 _ rfl (w.heap.size) rfl 77 (irow .u32 (fol h bs k)) (0, 0) _ r0 Tryd.underlying77 rfl (info23 _ hq) ?_) | (refine wpList_load_want rfl 78 _ rfl (gX) rfl 78 (irow .u8 (chunk bs k)) (0, 0) _ rx Tryd.underlying78 rfl (info24 _ hcl) ?_) | fail)
          refine (hcB.at _).mono ?_
          rintro e_ w5 ⟨rfl, hb⟩
          replace r0 := keep hb r0
          replace r1 := keep hb r1
          replace hw := Below.after hw hb
          clear hb hcB
          have hbl := blk_len (fol h bs k) (chunk bs k)
          rw [← hnext] at hbl ⊢
          go_wp2_with (first | (refine wpList_store_row rfl 77 _ _ rfl (w.heap.size) (irow .u32 (fol h bs (k + 1))) rfl rfl 77 _ r0 (info23 _ hbl) (fit8 _ _ hq hbl) (irow_one _ _) ?_) | fail)
          refine ⟨⟨k + 1, by omega, by congr 1; omega, setRow_heap w5 (w.heap.size) _ _ _ _ r0, (setRow_other w5 (w.heap.size) (w.heap.size + 1) _ (by omega)).trans r1, below_setRow hw (Nat.le_refl _) _⟩, ?_⟩
          simp [intOf]; omega
    · have hd : decide (((64 * k : Nat) : Int) + 64 ≤ (len : Int)) = false := by simp; omega
      have ek := div_of hk hlt
      rw [← ek] at r0 hq
      go_wp2_with (first | (refine wpList_load_want rfl 77 _ rfl (w.heap.size) rfl 77 (irow .u32 (fol h bs (len / 64))) (0, 0) _ r0 Tryd.underlying77 rfl (info23 _ hq) ?_) | (refine wpList_store_row rfl 77 _ _ rfl (w.heap.size + 1) (irow .u32 (fol h bs (len / 64))) rfl rfl 77 _ r1 (info23 _ hq) (fit8 _ _ (zr_len 8) hq) (irow_one _ _) ?_) | fail)
      replace r1 := setRow_heap wr (w.heap.size + 1) _ (irow .u32 (fol h bs (len / 64))) _ _ r1
      replace hw := below_setRow hw (show w.heap.size ≤ w.heap.size + 1 by omega) (irow .u32 (fol h bs (len / 64)))
      generalize wr.setRow (w.heap.size + 1) (irow .u32 (fol h bs (len / 64))) = w9 at *
      exact bodyPost_ret (v := .agg (irow .u32 (fol h bs (len / 64)))) (results_cell_row Tryd.results35 _ _ (w.heap.size + 1) _ _ _ _ rfl r1 Tryd.underlying77 rfl (info23 _ hq)) rfl ⟨rfl, hw⟩
end Go.Proofs.YtilgicikcjcdjaaDoor


namespace Go.Proofs.YtilgicikcjcdjaaDoor
set_option maxRecDepth 100000
open Go Go.RowKit Go.Sort
attribute [local go_sem] setCell_drewN alloc_drewN

/-- The hash of bytes. -/
def sumW (bs : List Int) : List Int := fol sl (bs ++ padL bs.length) ((bs ++ padL bs.length).length / 64)
def sumL (bs : List Int) : List Int := byts (sumW bs)
theorem sumW_len (bs : List Int) : (sumW bs).length = 8 := fol_len rfl _ _
theorem sumW_bd (bs : List Int) : ∀ x ∈ sumW bs, 0 ≤ x ∧ x < 4294967296 := fol_bd sl_bd _ _
theorem sumL_len (bs : List Int) : (sumL bs).length = 32 := byts_len _
theorem padL_len (n : Nat) : (padL n).length = plen n := padP_len n 8
theorem bys_none {W : World} {ao : Option Addr} {cap : Nat} {bs : List Int} (hB : Bys W (.slice ao bs.length cap) bs) (hn : ∀ a l c, Value.slice ao bs.length cap = .slice a l c → a = none → c = 0) : ao = none → bs.length = 0 ∧ cap = 0 := by
  intro h
  refine ⟨?_, hn _ _ _ rfl h⟩
  obtain ⟨ao', cap', e, _, hc, _⟩ := hB
  cases e
  rcases Nat.eq_zero_or_pos bs.length with e | e
  · exact e
  · obtain ⟨b, off, e', _⟩ := hc 0 e
    rw [h] at e'; cases e'
theorem bys_cells {W : World} {ao : Option Addr} {cap : Nat} {bs : List Int} (hB : Bys W (.slice ao bs.length cap) bs) : ∀ ad, ao = some ad → ∀ j u, (bs.map (Value.int .u8))[j]? = some u → W.cell? (ad.add j) = some u := by
  obtain ⟨ao', cap', e, _, hc, _⟩ := hB
  cases e
  intro ad had j u hu
  have hj : j < bs.length := by have := (List.getElem?_eq_some_iff.1 hu).1; simpa using this
  obtain ⟨b, off, e', hb, hcl⟩ := hc j hj
  obtain rfl : ad = ⟨b, off, none⟩ := Option.some.inj (had.symm.trans e')
  have : u = .int .u8 (bs.getD j 0) := by
    simp only [List.getElem?_map, List.getElem?_eq_getElem hj, Option.map_some, Option.some.injEq] at hu
    rw [← hu, List.getD_eq_getElem?_getD, List.getElem?_eq_getElem hj]; rfl
  rw [this, addr_add]
  exact hcl
theorem Bys.of_own {W : World} {b n : Nat} {v : Value} {l : List Int} (h : W.ownsRow b 5 1 v n (l.map (Value.int .u8))) (hl : l.length ≤ 9223372036854775807) (hz : ∀ z ∈ l, 0 ≤ z ∧ z < 256) : Bys W v l := by
  obtain ⟨h1, ⟨rfl, rfl⟩ | ⟨g, cap, cur, rfl, hb, hg, hn, hm, hs, ht⟩⟩ := h
  · have : l = [] := List.eq_nil_of_length_eq_zero (by simpa using h1)
    subst this
    exact ⟨none, 0, rfl, by decide, fun j hj => by simp at hj, by simp⟩
  · have hln : l.length = n := by simpa using h1
    refine ⟨_, cap, by rw [hln], hl, fun j hj => ⟨g, 0, rfl, lt_of_row hg, ?_⟩, hz⟩
    rw [Nat.zero_add, cell_of_row _ _ _ _ _ _ hg]
    have h2 := congrArg (fun q => q[j]?) ht
    simp only [Nat.mul_one] at h2
    rw [List.getElem?_take_of_lt (by omega), List.getElem?_map, List.getElem?_eq_getElem hj] at h2
    rw [← Array.getElem?_toList, h2, List.getD_eq_getElem?_getD, List.getElem?_eq_getElem hj]
    rfl
theorem own_keep {W W' : World} {b n : Nat} {T : TypeId} {v : Value} {xs : List Value} (h : W.ownsRow b T 1 v n xs) (hb : Below W.heap.size W W') : W'.ownsRow b T 1 v n xs := by
  obtain ⟨h1, h2 | ⟨g, cap, cur, rfl, hb2, hg, h3⟩⟩ := h
  · exact ⟨h1, .inl h2⟩
  · exact ⟨h1, .inr ⟨g, cap, cur, rfl, hb2, keep hb hg, h3⟩⟩
theorem both_bd {a b : List Int} (ha : ∀ z ∈ a, 0 ≤ z ∧ z < 256) (hb : ∀ z ∈ b, 0 ≤ z ∧ z < 256) : ∀ z ∈ a ++ b, 0 ≤ z ∧ z < 256 := fun z hz => (List.mem_append.1 hz).elim (ha z) (hb z)
set_option maxRecDepth 100000 in
set_option maxHeartbeats 4000000 in
theorem r_sum (bs : List Int) (w : World) (v : Value) (hN : BysN w v bs) : Calls Tryd.prog 26 #[v] w fun e w' => e = .returned (.agg (irow .u8 (sumL bs))) ∧ Below w.heap.size w w' := by
  obtain ⟨hB, hlim, hnil⟩ := hN
  have r0 := hp1_0 w (.cells (irow .u8 (zr 32)) 26)
  have hw : Below w.heap.size w (w.alloc (.cells (irow .u8 (zr 32)) 26)) := ((Below.refl _ _).alloc (Nat.le_refl _) _)

  replace hB := hB.keep hw
  have hz := hB
  obtain ⟨ao, cap, rfl, _, _, hz⟩ := hz
  have hnone := bys_none hB hnil
  obtain ⟨i0, hi, hz0, hz1, hz2⟩ := info8
  have hpb := plen_bd bs.length
  have hpl := padL_len bs.length
  have cP := r_pad bs.length (by omega)
  clear hnil
  go_enter Tryd.func26, Tryd.ntmps26
  go_wp2_with (first | (refine wpList_alloc rfl 26 rfl (irow .u8 (zr 32)) zkey ?_) | (at_make; refine wpList_make_own _ rfl _ _ 67 rfl (w.heap.size + 1) 5 i0 (.int .u8 0) 1 Tryd.underlying67 hi hz0 hz1 _ _ _ (bs.length + 72) rfl rfl (by omega) (by rw [hz2]; omega) (by unfold maxLen; omega) (by rw [size_alloc1]; exact Nat.le_refl _) ?_) | fail)
  try simp only [size_alloc1]
  have ysz : (w.alloc (.cells (irow .u8 (zr 32)) 26)).heap.size = w.heap.size + 1 := size_alloc1 _ _
  generalize (w.alloc (.cells (irow .u8 (zr 32)) 26)) = w0 at *
  intro w1 hown hgr
  have hbel : Below w0.heap.size w0 w1 := (Below.refl _ _).grown hgr (Nat.le_refl _) (fun k h => by cases h)
  replace r0 := keep hbel r0
  replace hB := hB.keep hbel
  replace hw := Below.after hw hbel
  clear hbel hgr
  have hcell := bys_cells hB
  go_wp2_with (at_builtin; refine wpList_append_fits_any _ rfl (.tmp 8) (.tmp 9) 67 rfl (w.heap.size + 1) 5 i0 1 Tryd.underlying67 hi hz1 (w.heap.size + 1) 0 (bs.length + 72) [] rfl hown ao bs.length cap (bs.map (Value.int .u8)) rfl (by simp) hnone hcell (ints_one .u8 bs) (by omega) ?_)
  intro w2 hown2 hgr
  have lr0 := lt_of_row r0
  replace r0 : w2.heap[w.heap.size]? = _ := (hgr.block _ lr0 (by intro e; injection e with e; omega)).trans r0
  replace hw := hw.grown hgr hw.size (fun k h => by injection h with h; omega)
  clear hgr hcell hown hB hnone lr0
  go_wp2_with (fail)
  refine (cP w2).mono ?_
  rintro e_ w3 ⟨vp, rfl, hp, hb⟩
  replace r0 := keep hb r0
  replace hown2 := own_keep hown2 hb
  have hs2 := hw.size
  replace hw := Below.after hw hb
  clear hb cP
  obtain ⟨_, ⟨_, h0⟩ | ⟨gp, capp, curp, rfl, hgp, _⟩⟩ := id hp
  · omega
  have hcell := hp.cells (g := gp) rfl
  go_wp2_with (at_builtin; refine wpList_append_fits_any _ rfl (.tmp 11) (.tmp 15) 67 rfl (w.heap.size + 1) 5 i0 1 Tryd.underlying67 hi hz1 (w.heap.size + 1) bs.length (bs.length + 72) _ rfl hown2 (some ⟨gp, 0, none⟩) (plen bs.length) capp ((padL bs.length).map (Value.int .u8)) rfl (by simp [hpl]) (by intro h; cases h) (fun ad had => by cases had; exact hcell) (ints_one .u8 _) (by omega) ?_)
  intro w4 hown4 hgr
  have lr0 := lt_of_row r0
  replace r0 : w4.heap[w.heap.size]? = _ := (hgr.block _ lr0 (by intro e; injection e with e; omega)).trans r0
  replace hw := hw.grown hgr hw.size (fun k h => by injection h with h; omega)
  clear hgr hcell hown2 hp lr0
  have hwl : (bs ++ padL bs.length).length = bs.length + plen bs.length := by rw [List.length_append, hpl]
  have hbz := both_bd hz (padL_bd bs.length)
  rw [← List.map_append] at hown4
  have hBw := Bys.of_own hown4 (by omega) hbz
  clear hown4
  have hfin : sumL bs = byts (fol sl (bs ++ padL bs.length) ((bs ++ padL bs.length).length / 64)) := rfl
  have hFl : (fol sl (bs ++ padL bs.length) ((bs ++ padL bs.length).length / 64)).length = 8 := fol_len rfl _ _
  have cB := r_bytes _ hFl (fol_bd sl_bd (bs ++ padL bs.length) _)
  rw [← hfin] at cB
  have cF := fun (W : World) (x : Value) (h : Bys W x (bs ++ padL bs.length)) => r_fold sl (bs ++ padL bs.length) rfl W x h (by omega)
  generalize fol sl (bs ++ padL bs.length) ((bs ++ padL bs.length).length / 64) = FW at *
  clear hfin
  have hSl := sumL_len bs
  clear hpl hwl hbz hpb hFl
  go_wp2_with (fail)
  refine (r_start.at _).mono ?_
  rintro e_ w5 ⟨rfl, hb⟩
  replace r0 := keep hb r0
  replace hBw := hBw.keep hb
  replace hw := Below.after hw hb
  clear hb
  go_wp2_with (fail)
  refine (cF w5 _ hBw).mono ?_
  rintro e_ w6 ⟨rfl, hb⟩
  replace r0 := keep hb r0
  replace hw := Below.after hw hb
  clear hb hBw
  go_wp2_with (fail)
  refine (cB.at _).mono ?_
  rintro e_ w7 ⟨rfl, hb⟩
  replace r0 := keep hb r0
  replace hw := Below.after hw hb
  clear hb
  go_wp2_with (first | (refine wpList_store_row rfl 26 _ _ rfl (w.heap.size) (irow .u8 (sumL bs)) rfl rfl 26 _ r0 (infok8 _ hSl) (fit32 _ _ (zr_len 32) hSl) (irow_one _ _) ?_) | fail)
  replace r0 := setRow_heap w7 (w.heap.size) _ (irow .u8 (sumL bs)) _ _ r0
  replace hw := below_setRow hw (Nat.le_refl _) (irow .u8 (sumL bs))
  generalize w7.setRow (w.heap.size) (irow .u8 (sumL bs)) = w9 at *
  exact bodyPost_ret (v := .agg (irow .u8 (sumL bs))) (results_cell_row Tryd.results26 _ _ (w.heap.size) _ _ _ _ rfl r0 Tryd.underlying26 rfl (infok8 _ hSl)) rfl ⟨rfl, hw⟩

end Go.Proofs.YtilgicikcjcdjaaDoor


namespace Go.Proofs.YtilgicikcjcdjaaDoor
set_option maxRecDepth 100000
open Go Go.RowKit Go.Sort
attribute [local go_sem] setCell_drewN alloc_drewN

/-- An append whose row is either the old one or a new block. -/
theorem wpList_append_two {P : Program} (w : World) {ops : Array Oper} {rest : List Oper} {o : Oper} {a : Act} {Q : Exit → Act → World → Prop} (hgd : o.guard = none) (s x : Operand) (t : TypeId)
    (ho : o.op = .call { callee := .builtin .append, args := #[s, x], argTypes := #[t, t] })
    (base : Nat) (e : TypeId) (i : TypeInfo) (z : Value) (ht : P.underlying t = some (.slice e)) (hi : P.info? e = some i) (hz : i.zero = some z)
    (hsize : i.size = 1) (hby : i.bytes = 1) (hzs : z.cells.size = 1)
    (g n cap : Nat) (xs : List Value) (hs : a.eval s = .slice (some ⟨g, 0, none⟩) n cap) (hown : w.ownsRow base e 1 (.slice (some ⟨g, 0, none⟩) n cap) n xs)
    (ad : Addr) (m c : Nat) (news : List Value) (hx : a.eval x = .slice (some ad) m c) (hl : news.length = m * 1) (hnews : ∀ j u, news[j]? = some u → w.cell? (ad.add j) = some u) (h1 : ∀ u ∈ news, u.oneCell' = true)
    (h63 : n + m ≤ maxLen) (hbytes : (n + m) * 1 ≤ 140737488355328) (hbase : base ≤ w.heap.size)
    (h : ∀ g' cap' w', w'.ownsRow base e 1 (.slice (some ⟨g', 0, none⟩) (n + m) cap') (n + m) (xs ++ news) → w.grownBy w' (some g) → (g' = g ∨ g' = w.heap.size) → wpList P ops Q rest (a.put o.dst (.slice (some ⟨g', 0, none⟩) (n + m) cap')) w') : wpList P ops Q (o :: rest) a w := by
  refine wpList_plain hgd fun K hK => ?_
  obtain ⟨v', w', hr, h2, h3, _⟩ := run_append_own (P := P) w base t o.type e i z 1 1 ht hi hz hsize hby hzs (by decide) _ n xs hown ad m c news hl hnews h1 h63 hbytes hbase
  have key : ∃ g' cap', v' = .slice (some ⟨g', 0, none⟩) (n + m) cap' ∧ (g' = g ∨ g' = w.heap.size) := by
    rcases hown.2 with ⟨hv, _⟩ | ⟨g1, cap1, cur, hv, hbg, hg, hnc, hcm, hcs, htake⟩
    · cases hv
    · cases hv
      by_cases hroom : n + m ≤ cap
      · have hr2 := run_append_room (P := P) w t o.type e i ht hi g n cap cur hg ad m c news (by rw [hsize]; exact hl) hnews h1 hroom (by rw [hsize, hl, hcs]; omega)
        have := hr.symm.trans hr2
        injection this with e1 e2
        exact ⟨g, cap, e1, .inl rfl⟩
      · have holds : ∀ j u, xs[j]? = some u → w.cell? ((⟨g, 0, none⟩ : Addr).add j) = some u := hown.cells (g := g) rfl
        have hr2 := run_append_grow (P := P) w t o.type e i z ht hi hz ⟨g, 0, none⟩ n cap xs (by rw [hsize]; exact hown.1) holds ad m c news (by rw [hsize]; exact hl) hnews (by omega) (by simp only [maxLen] at h63; omega) (growslice_fits (by omega) (by rw [hby]; exact hbytes))
        have := hr.symm.trans hr2
        injection this with e1 e2
        exact ⟨_, _, e1, .inr rfl⟩
  obtain ⟨g', cap', rfl, hgg⟩ := key
  unfold Oper.wp execOp
  simp only [ho, resolve, invoke, builtin, Sem.run_bind, Sem.run_pure, Result.andThen_ok, List.map_toArray, List.map_cons, List.map_nil, hs, hx, hr]
  exact hK _ _ (h g' cap' w' h2 h3 hgg)
theorem grown_trans {a b c : World} {row : Option Nat} {g : Nat} (h : a.grownBy b (some g)) (h2 : b.grownBy c row) (hr : row = none ∨ row = some g ∨ ∃ k, row = some k ∧ a.heap.size ≤ k) : a.grownBy c (some g) := by
  refine ⟨h2.os.trans h.os, h2.tape.trans h.tape, h2.output.trans h.output, Nat.le_trans h.size h2.size, fun k hk hn => ?_⟩
  have h3 := h.size
  refine (h2.block k (by omega) ?_).trans (h.block k hk hn)
  rcases hr with rfl | rfl | ⟨q, rfl, hq⟩
  · simp
  · exact hn
  · intro e; injection e with e; omega
theorem grown_setCell {a b : World} {g j : Nat} {v : Value} (h : a.grownBy b (some g)) : a.grownBy (b.setCell ⟨g, j, none⟩ v) (some g) := by
  refine ⟨h.os, h.tape, h.output, ?_, fun k hk hn => ?_⟩
  · have e : (b.setCell ⟨g, j, none⟩ v).heap.size = b.heap.size := by simp [World.setCell]
    rw [e]; exact h.size
  · rw [heap_setCell_other b ⟨g, j, none⟩ k v (fun e => hn (by rw [e]))]
    exact h.block k hk hn
end Go.Proofs.YtilgicikcjcdjaaDoor


namespace Go.Proofs.YtilgicikcjcdjaaDoor
set_option maxRecDepth 100000
open Go Go.RowKit Go.Sort
attribute [local go_sem] setCell_drewN alloc_drewN

theorem cell_of {W : World} {g : Nat} {cs : Array Value} {t : TypeId} (hg : W.heap[g]? = some (.cells cs t (0, 0))) {j : Nat} {v : Value} (h : cs[j]? = some v) : W.cell? ⟨g, j, none⟩ = some v := by
  rw [cell_of_row _ _ _ _ _ _ hg]; exact h
theorem blk_lt {w : World} {b o : Nat} {v : Value} (h : w.cell? ⟨b, o, none⟩ = some v) : b < w.heap.size := by
  rcases Nat.lt_or_ge b w.heap.size with q | q
  · exact q
  · simp [World.cell?, Array.getElem?_eq_none q] at h
theorem grown_below {a b c : World} {g : Nat} (h : a.grownBy b (some g)) (hb : Below b.heap.size b c) : a.grownBy c (some g) :=
  ⟨hb.os.trans h.os, hb.tape.trans h.tape, hb.output.trans h.output, Nat.le_trans h.size hb.size, fun k hk hn => (hb.block k (Nat.lt_of_lt_of_le hk h.size)).trans (h.block k hk hn)⟩
theorem Kon.grown {a b : World} {g : Nat} (h : Kon a) (hg : a.grownBy b (some g)) (hne : g ≠ 1) : Kon b := by
  obtain ⟨t, fr, h⟩ := h
  exact ⟨t, fr, (hg.block 1 (Array.getElem?_eq_some_iff.1 h).1 (by intro e; injection e with e; exact hne e.symm)).trans h⟩
theorem Sta.grown {a b : World} {g : Nat} (h : Sta a) (hg : a.grownBy b (some g)) (hne : g ≠ 0) : Sta b := by
  obtain ⟨t, fr, h⟩ := h
  exact ⟨t, fr, (hg.block 0 (Array.getElem?_eq_some_iff.1 h).1 (by intro e; injection e with e; exact hne e.symm)).trans h⟩
theorem grown_setRow {a b : World} {g : Nat} (cs : Array Value) (h : a.grownBy b (some g)) : a.grownBy (b.setRow g cs) (some g) := by
  refine ⟨h.os, h.tape, h.output, ?_, fun k hk hn => ?_⟩
  · have e : (b.setRow g cs).heap.size = b.heap.size := by simp
    rw [e]; exact h.size
  · rw [setRow_other b g k cs (fun e => hn (by rw [e]))]
    exact h.block k hk hn
theorem slice_part (g r : Nat) (hr : r < 64) (W : World) : (Instr.sliceAt 78 (.pointer (some ⟨g, 8, none⟩)) (some (.int .u64 (r : Int))) none none).run Tryd.prog W = .ok (.slice (some ⟨g, 8 + r, none⟩) (64 - r) (64 - r)) W := by
  have ht : Tryd.prog.underlying 78 = some (.array (Tryd.prog.arrayLen 78) (Tryd.prog.elem 78)) := by kernel_rfl
  have hn : Tryd.prog.arrayLen 78 = 64 := by kernel_rfl
  have hs : (sizeOf (Tryd.prog.elem 78)).run Tryd.prog W = .ok 1 W := by kernel_rfl
  rw [run_sliceAt_array_l W _ _ ht .u64 _ (by omega) (by rw [hn]; omega), hs]
  show Result.ok (slicedAt _ _ _ _ 1) W = _
  rw [Int.toNat_natCast, hn, slicedAt, if_neg (by omega), addr_add]
  simp
theorem elem8 : Tryd.prog.underlying 67 = some (.slice (Tryd.prog.elem 67)) := by kernel_rfl
theorem size8 (W : World) : (sizeOf (Tryd.prog.elem 67)).run Tryd.prog W = .ok 1 W := by kernel_rfl
theorem slice_first (ad : Addr) (m c n : Nat) (h : n ≤ c) (W : World) : (Instr.sliceAt 67 (.slice (some ad) m c) none (some (.int .i64 (n : Int))) (some (.int .i64 (n : Int)))).run Tryd.prog W = .ok (.slice (some (if n = 0 then ad else ad.add 0)) n n) W := by
  rw [run_sliceAt_slice _ _ _ _ _ _ elem8, run_slice_hm W 67 (some ad) m c elem8 .i64 .i64 _ _ (by omega) (Int.le_refl _) (by omega), size8]
  show Result.ok (sliced _ _ _ _ 1) W = _
  rw [Int.toNat_natCast, sliced, Nat.zero_mul]
  by_cases e : n = 0
  · rw [if_pos e, if_pos e]; rfl
  · rw [if_neg e, if_neg e]; rfl
theorem slice_rest (b0 o m c n : Nat) (h : n ≤ m) (hc : m ≤ c) : ∃ ao2 : Option Addr, (n < m → ao2 = some ⟨b0, o + n, none⟩) ∧ ∀ W, (Instr.sliceAt 67 (.slice (some ⟨b0, o, none⟩) m c) (some (.int .i64 (n : Int))) none none).run Tryd.prog W = .ok (.slice ao2 (m - n) (c - n)) W := by
  refine ⟨if c = n then some ⟨b0, o, none⟩ else some ⟨b0, o + n, none⟩, fun hn => if_neg (by omega), fun W => ?_⟩
  rw [run_sliceAt_slice _ _ _ _ _ _ elem8, run_slice_l W 67 (some ⟨b0, o, none⟩) m c elem8 .i64 _ (by omega) (by omega), size8]
  show Result.ok (sliced _ _ _ _ 1) W = _
  rw [Int.toNat_natCast, sliced, Nat.mul_one, Option.map_some, addr_add]
theorem zbuilt : Tryd.prog.built 78 [] = some (irow .u8 (zr 64)) := by kernel_rfl
theorem copy_part {W : World} {g r b0 o n : Nat} {ws ps c : List Int} {sz : Int} (hg : W.heap[g]? = some (.cells (hcells ws ps sz) 80 (0, 0))) (h1 : ws.length = 8) (h2 : ps.length = 64) (hc : ∀ j, j < c.length → W.cell? ⟨b0, o + j, none⟩ = some (.int .u8 (c.getD j 0))) (hn : c.length = n) (hr : r + n ≤ 64) :
    (Builtin.copy_ #[67, 67] 3 #[.slice (some ⟨g, 8 + r, none⟩) (64 - r) (64 - r), .slice (some ⟨b0, o, none⟩) n n]).run Tryd.prog W = .ok (goInt n) (W.setRow g (hcells ws (ps.take r ++ c ++ ps.drop (r + n)) sz)) := by
  have hsrc : ∀ j u, (c.map (Value.int .u8))[j]? = some u → W.cell? ((⟨b0, o, none⟩ : Addr).add j) = some u := by
    intro j u hu
    have hj : j < c.length := by have := (List.getElem?_eq_some_iff.1 hu).1; simpa using this
    have : u = .int .u8 (c.getD j 0) := by
      simp only [List.getElem?_map, List.getElem?_eq_getElem hj, Option.map_some, Option.some.injEq] at hu
      rw [← hu, List.getD_eq_getElem?_getD, List.getElem?_eq_getElem hj]; rfl
    rw [this, addr_add]
    exact hc j hj
  have hrun := run_copy_row (P := Tryd.prog) W 67 67 3 5 g (8 + r) (64 - r) (64 - r) ⟨b0, o, none⟩ n n (hcells ws ps sz) 80 (c.map (Value.int .u8)) Tryd.underlying67 (by kernel_rfl) hg (by rw [List.length_map, hn]; exact (Nat.min_eq_left (by omega)).symm) hsrc (by rw [hcells_size _ _ _ h1 h2, List.length_map]; omega) (ints_one .u8 c)
  rw [hcells_copy ws ps c sz r h1 h2 (by omega), List.length_map, hn] at hrun
  exact hrun
set_option maxRecDepth 100000 in
set_option maxHeartbeats 8000000 in
theorem a_write (bs b : List Int) (g : Nat) (w : World) (v : Value) (hH : w.heap[g]? = some (.cells (hst bs) 80 (0, 0))) (hB : Bys w v b) (hne : ∀ a l c, v = .slice (some a) l c → 0 < l → a.block ≠ g) (hcap : ∀ a l c, v = .slice a l c → l ≤ c) (hg1 : 1 < g) (hK : Kon w) (hzb : ∀ z ∈ bs, 0 ≤ z ∧ z < 256) (hlim : bs.length + b.length ≤ 4611686018427387904) :
    Calls Tryd.prog 31 #[.pointer (some ⟨g, 0, none⟩), v] w fun e w' => e = .returned (.tuple #[]) ∧ w'.heap[g]? = some (.cells (hst (bs ++ b)) 80 (0, 0)) ∧ w.grownBy w' (some g) := by
  obtain ⟨ao, cap, rfl, hl63, hc, hz⟩ := hB
  replace hcap := hcap _ _ _ rfl
  generalize elen : b.length = len at *
  have hgl := lt_of_row hH
  go_enter Tryd.func31, Tryd.ntmps31
  go_wp2_with (fail)
  go_loopw [1] (fun x wr => ∃ (k : Nat) (ao' : Option Addr), k ≤ len ∧ x = .slice ao' (len - k) (cap - k) ∧ (k < len → ∃ b0 off, ao = some ⟨b0, off, none⟩ ∧ ao' = some ⟨b0, off + k, none⟩) ∧ wr.heap[g]? = some (.cells (hst (bs ++ b.take k)) 80 (0, 0)) ∧ w.grownBy wr (some g)) (fun x _ => slen x)
  case atStart =>
    refine ⟨0, ao, by omega, rfl, fun h => ?_, by simpa using hH, World.grownBy.refl _ _⟩
    obtain ⟨b0, off, e, _⟩ := hc 0 h
    exact ⟨b0, off, e, e⟩
  case round =>
    obtain ⟨k, ao', hk, rfl, hadr, rH, hw⟩ := hrel
    by_cases hlt : k < len
    · obtain ⟨b0, off, rfl, rfl⟩ := hadr hlt
      have hb0 := hne _ _ _ rfl (by omega)
      replace hb0 : b0 ≠ g := hb0
      have hcell : ∀ j, j < len → wr.cell? ⟨b0, off + j, none⟩ = some (.int .u8 (b.getD j 0)) := fun j hj => by
        obtain ⟨b1, o1, e, hb1, hb2⟩ := hc j hj
        cases e
        exact hw.cell hb2 (by intro e; injection e with e; exact hb0 e)
      have f4 : Kon wr := by
        obtain ⟨t, fr, h⟩ := hK
        exact ⟨t, fr, (hw.block 1 (Array.getElem?_eq_some_iff.1 h).1 (by intro e; injection e with e; omega)).trans h⟩
      have hal : (bs ++ b.take k).length = bs.length + k := by rw [List.length_append, List.length_take]; omega
      have hab : ∀ z ∈ bs ++ b.take k, 0 ≤ z ∧ z < 256 := both_bd hzb (fun z h => hz z (List.mem_of_mem_take h))
      have hnx : ∀ n, bs ++ b.take (k + n) = bs ++ b.take k ++ (b.drop k).take n := fun n => by rw [List.append_assoc, ← List.take_add]
      have hgl2 := lt_of_row rH
      clear hadr hne hc hH hK hzb
      generalize bs ++ b.take k = a at *
      have hw8 := hwords_len a
      have hp64 := hpart_len a
      have hless := hst_less a
      have hfull := hst_full a
      have hwat := wat_bd (bs := a)
      have hover := fun c => part_over a c (a.length / 64) (a.length % 64) (by omega)
      rw [show prt (wat a (a.length / 64)) (a.length % 64) = hpart a from rfl] at hover
      rw [hst] at rH
      have csz := cell_of rH (hcells_at _ _ _ hw8 hp64)
      generalize eA : a.length = A at *
      obtain ⟨r, er⟩ : ∃ r : Nat, r = A % 64 := ⟨_, rfl⟩
      have hr : r < 64 := by omega
      have eri : (A : Int) % 64 = (r : Int) := by omega
      rw [← er] at hover hless hfull
      generalize A / 64 = q at *
      generalize hwords a = ws at *
      generalize hpart a = ps at *
      obtain ⟨m, em⟩ : ∃ m : Nat, m = len - k := ⟨_, rfl⟩
      rw [← em]
      have hm : 0 < m := by omega
      obtain ⟨C, eC⟩ : ∃ C : Nat, C = cap - k := ⟨_, rfl⟩
      rw [← eC]
      have hmC : m ≤ C := by omega
      have hAl : A ≤ 4611686018427387904 := by omega
      have hAm : A + m ≤ 4611686018427387904 := by omega
      clear hwat
      -- how many bytes the block takes up
      obtain ⟨n, hn1, hnm, hn64, hdec⟩ : ∃ n : Nat, 0 < n ∧ n ≤ m ∧ r + n ≤ 64 ∧ ((n = m ∧ m < 64 - r) ∨ (n = 64 - r ∧ 64 - r ≤ m)) := by
        by_cases h : m < 64 - r
        · exact ⟨m, hm, Nat.le_refl _, by omega, .inl ⟨rfl, h⟩⟩
        · exact ⟨64 - r, by omega, by omega, by omega, .inr ⟨rfl, by omega⟩⟩
      have hcl : ((b.drop k).take n).length = n := by rw [List.length_take, List.length_drop]; omega
      have hcs : ∀ j, j < ((b.drop k).take n).length → wr.cell? ⟨b0, off + k + j, none⟩ = some (.int .u8 (((b.drop k).take n).getD j 0)) := fun j hj => by
        rw [hcl] at hj
        have := hcell (k + j) (by omega)
        rw [← Nat.add_assoc] at this
        rw [this, List.getD_eq_getElem?_getD, List.getD_eq_getElem?_getD, List.getElem?_take_of_lt hj, List.getElem?_drop]
      have hnx' := hnx n
      have hov := hover ((b.drop k).take n) (by rw [hcl]; exact hn64)
      have hls := hless ((b.drop k).take n)
      have hfl := hfull ((b.drop k).take n)
      have hcb : ∀ z ∈ a ++ (b.drop k).take n, 0 ≤ z ∧ z < 256 := both_bd hab (fun z h => hz z (List.mem_of_mem_drop (List.mem_of_mem_take h)))
      have hpo := prt_bd (wat_bd hcb q) 64
      rw [hcl] at hov hls hfl
      clear hover hless hfull hnx hcell hcb hab hz
      generalize (b.drop k).take n = c at *
      generalize eo : off + k = o at *
      replace eo := hide eo
      have sl1 := slice_part g r hr
      have sl2 := slice_first ⟨b0, o, none⟩ m C n (by omega)
      rw [if_neg (show ¬ n = 0 by omega), addr_add, Nat.add_zero] at sl2
      obtain ⟨ao2, hao2, sl3⟩ := slice_rest b0 o m C n hnm hmC
      have hpl : (ps.take r ++ c ++ ps.drop (r + n)).length = 64 := by rw [hov, prt_len]
      have hcp := fun (W : World) (rW : W.heap[g]? = some (.cells (hcells ws ps (A : Int)) 80 (0, 0))) hcW => copy_part (W := W) (r := r) (b0 := b0) (o := o) (c := c) rW hw8 hp64 hcW hcl hn64
      rw [hov] at hpl
      simp only [hov] at hcp
      replace hov := hide hov
      replace hnx' := hide hnx'
      replace hls := hide hls
      replace hfl := hide hfl
      replace hpo := hide hpo
      have hAn : (A : Int) + (n : Int) < 18446744073709551616 := by omega
      rcases hdec with ⟨hE, hE2⟩ | ⟨hE, hE2⟩
      · have e64 : ¬ ((64 : Int) - (r : Int) ≤ (m : Int)) := by omega
        have hmod : (((A : Int) + (n : Int)) % 64 == 0) = false := by rw [beq_eq_false_iff_ne]; omega
        clear er hal hlim hl63
        replace em := hide em
        replace eC := hide eC
        replace elen := hide elen
        subst hE
        go_wp2
        refine wp_region_alloc_ex 9 9 [] (fun _ => .cells #[] 0 (0, 0)) (by kernel_rfl) (by decide) (by decide) (by kernel_rfl) (by kernel_rfl) (by kernel_rfl) (by kernel_rfl) (by kernel_rfl) (by kernel_rfl) (by kernel_rfl) (by kernel_rfl) (by decide) (by decide) ?_ ?_
        · intro s l u
          omega
        apply Exists.intro
        constructor
        · intro v_ hb
          clear hb; dsimp only [List.take]
          go_big_quiet_step (fail)
          go_big_quiet_step (fail)
          go_big_quiet_step (fail)
          go_big_quiet_step (fail)
          go_big_quiet_step (fail)
          go_big_quiet_step (fail)
          go_big_quiet_step (fail)
          go_big_quiet_step (fail)
          go_big_quiet_step (fail)
          refine wpQuiet_nil ?_
          rfl
        intro w1 g_ hb _ _
        simp only [List.drop, puts, ptrs, List.map, List.foldl, Act.put]

        have hcs1 : ∀ j, j < c.length → w1.cell? ⟨b0, o + j, none⟩ = some (.int .u8 (c.getD j 0)) := fun j hj => (hb.cell (p := ⟨b0, o + j, none⟩) (blk_lt (hcs j hj))).trans (hcs j hj)
        have rH1 := keep hb rH
        have hcopy := hcp w1 rH1 hcs1
        replace f4 := f4.below hb
        replace hw := grown_setRow (hcells ws (prt (wat (a ++ c) q) (r + n)) (A : Int)) (grown_below hw hb)
        have r2 := setRow_heap w1 g _ (hcells ws (prt (wat (a ++ c) q) (r + n)) (A : Int)) _ _ rH1
        replace f4 := f4.belowN (n := 1 + 1) (by omega) (below_setRow (Below.refl _ _) (show 1 + 1 ≤ g by omega) (hcells ws (prt (wat (a ++ c) q) (r + n)) (A : Int)))
        have csz2 := cell_of r2 (hcells_at _ _ _ hw8 hpl)
        have hf2 := row_frozen r2 72
        have r3 := heap_setCell_same _ g 72 _ _ (.int .u64 ((A : Int) + (n : Int))) r2
        rw [hcells_setsz _ _ _ _ hw8 hpl] at r3
        replace hw := grown_setCell (j := 72) (v := .int .u64 ((A : Int) + (n : Int))) hw
        clear hcp hcs hcs1 rH rH1 csz hb sl1 sl2
        generalize w1.setRow g (hcells ws (prt (wat (a ++ c) q) (r + n)) (A : Int)) = w2 at *
        go_wp2
        refine ⟨⟨k + n, ao2, by have := em.out; omega, by have e1 := em.out; have e2 := eC.out; rw [show len - (k + n) = 0 by omega, show cap - (k + n) = C - n by omega], fun h => by have e1 := em.out; omega, by rw [hnx'.out, hls.out (by omega)]; exact r3, hw⟩, ?_⟩
        simp [slen]; omega
      · have h64 : r + n = 64 := by omega
        have e64 : (64 : Int) - (r : Int) ≤ (m : Int) := by omega
        have hmod : (((A : Int) + (n : Int)) % 64 == 0) = true := by rw [beq_iff_eq]; omega
        rw [h64] at hpl
        simp only [h64] at hcp
        have en : (64 : Int) - (r : Int) = (n : Int) := by omega
        replace h64 := hide h64
        replace hE := hide hE
        clear er hal hlim hl63
        replace em := hide em
        replace eC := hide eC
        replace elen := hide elen
        go_wp2
        refine wp_region_alloc_ex 9 9 [] (fun _ => .cells #[] 0 (0, 0)) (by kernel_rfl) (by decide) (by decide) (by kernel_rfl) (by kernel_rfl) (by kernel_rfl) (by kernel_rfl) (by kernel_rfl) (by kernel_rfl) (by kernel_rfl) (by kernel_rfl) (by decide) (by decide) ?_ ?_
        · intro s l u
          omega
        apply Exists.intro
        constructor
        · intro v_ hb
          clear hb; dsimp only [List.take]
          go_big_quiet_step (fail)
          go_big_quiet_step (fail)
          go_big_quiet_step (fail)
          go_big_quiet_step (fail)
          go_big_quiet_step (fail)
          go_big_quiet_step (fail)
          go_big_quiet_step (fail)
          go_big_quiet_step (fail)
          go_big_quiet_step (fail)
          refine wpQuiet_nil ?_
          rfl
        intro w1 g_ hb _ _
        simp only [List.drop, puts, ptrs, List.map, List.foldl, Act.put]

        have hcs1 : ∀ j, j < c.length → w1.cell? ⟨b0, o + j, none⟩ = some (.int .u8 (c.getD j 0)) := fun j hj => (hb.cell (p := ⟨b0, o + j, none⟩) (blk_lt (hcs j hj))).trans (hcs j hj)
        have rH1 := keep hb rH
        have hcopy := hcp w1 rH1 hcs1
        replace f4 := f4.below hb
        replace hw := grown_setRow (hcells ws (prt (wat (a ++ c) q) 64) (A : Int)) (grown_below hw hb)
        have r2 := setRow_heap w1 g _ (hcells ws (prt (wat (a ++ c) q) 64) (A : Int)) _ _ rH1
        replace f4 := f4.belowN (n := 1 + 1) (by omega) (below_setRow (Below.refl _ _) (show 1 + 1 ≤ g by omega) (hcells ws (prt (wat (a ++ c) q) 64) (A : Int)))
        have csz2 := cell_of r2 (hcells_at _ _ _ hw8 hpl)
        have hf2 := row_frozen r2 72
        have r3 := heap_setCell_same _ g 72 _ _ (.int .u64 ((A : Int) + (n : Int))) r2
        rw [hcells_setsz _ _ _ _ hw8 hpl] at r3
        replace hw := grown_setCell (j := 72) (v := .int .u64 ((A : Int) + (n : Int))) hw
        clear hcp hcs hcs1 rH rH1 csz hb sl1 sl2
        generalize w1.setRow g (hcells ws (prt (wat (a ++ c) q) 64) (A : Int)) = w2 at *
        go_wp2
        have f5 := f4.belowN (n := 1 + 1) (by omega) ((Below.refl (1 + 1) w2).setCell (show 1 + 1 ≤ (⟨g, 72, none⟩ : Addr).block from hg1) (.int .u64 ((A : Int) + (n : Int))))
        have cB := a_block ws (prt (wat (a ++ c) q) 64) hw8 hpl hpo.out
        have hbl := blk_len ws (prt (wat (a ++ c) q) 64)
        have hres := hfl.out h64.out
        generalize w2.setCell ⟨g, 72, none⟩ (.int .u64 ((A : Int) + (n : Int))) = w3 at *
        clear hcopy r2 f4 csz2 hf2 hls hfl hov hpo
        generalize prt (wat (a ++ c) q) 64 = NP at *
        generalize blk ws NP = BW at *
        have hpw : (hcells ws NP ((A : Int) + (n : Int))).extract 0 (0 + (irow .u32 ws).size) = irow .u32 ws := by rw [irow_size, hw8]; exact hcells_words _ _ _ hw8
        have hpp : (hcells ws NP ((A : Int) + (n : Int))).extract 8 (8 + (irow .u8 NP).size) = irow .u8 NP := by rw [irow_size, hpl]; exact hcells_part _ _ _ hw8 hpl
        have HR := keepr r3
        replace hres := hide hres
        refine wp_region_tail (C := fun w' => ∃ p : Regrown, w' = grow (redrawn w3 p.d) p.os) 12 _ rfl rfl rfl (by kernel_rfl) (by kernel_rfl) (by kernel_rfl) (by kernel_rfl) ⟨⟨w3.drawn + 1, #[]⟩, by rw [grow_empty]; rfl⟩ ?_
        dsimp only [List.set, idle]
        go_big_quiet_step (fail)
        go_big_quiet_step (fail)
        go_big_quiet_step (fail)
        go_big_quiet_step (fail)
        refine wpQuiet_load_part rfl 77 _ rfl g 0 rfl 80 (hcells ws NP ((A : Int) + (n : Int))) (0, 0) (irow .u32 ws) _ HR.out hpw Tryd.underlying77 rfl (info23 _ hw8) ?_
        simp only [Act.put, List.setIfInBounds_toArray, List.set_cons_succ, List.set_cons_zero]
        go_big_quiet_step (fail)
        go_big_quiet_step (fail)
        go_big_quiet_step (fail)
        refine wpQuiet_load_part rfl 78 _ rfl g 8 rfl 80 (hcells ws NP ((A : Int) + (n : Int))) (0, 0) (irow .u8 NP) _ HR.out hpp Tryd.underlying78 rfl (info24 _ hpl) ?_
        simp only [Act.put, List.setIfInBounds_toArray, List.set_cons_succ, List.set_cons_zero]
        go_big_quiet_step (exact cB.re f5)
        go_big_quiet_step (fail)
        go_big_quiet_step (fail)
        refine wpQuiet_idle rfl rfl rfl ?_
        rintro _ ⟨p, rfl⟩
        have hb := below_regrown w3 p.d p.os
        generalize grow (redrawn w3 p.d) p.os = w4 at *
        replace r3 := keep hb r3
        replace hw := grown_below hw hb
        clear hb

        clear HR hpw hpp cB f5
        go_wp2_with (first | (refine wpList_store_part rfl 77 _ _ rfl g 0 (irow .u32 BW) rfl rfl 80 _ (hcells BW NP ((A : Int) + (n : Int))) r3 (by rw [irow_size, hbl, hcells_size _ _ _ hw8 hpl]; omega) (hcells_setwords _ _ _ _ hw8 hpl hbl) (info23 _ hbl) (irow_one _ _) ?_) | (refine wpList_build_as rfl 78 _ rfl [] rfl (irow .u8 (zr 64)) zbuilt ?_) | (refine wpList_store_part rfl 78 _ _ rfl g 8 (irow .u8 (zr 64)) rfl rfl 80 _ (hcells BW (zr 64) ((A : Int) + (n : Int))) (setRow_heap w4 g _ (hcells BW NP ((A : Int) + (n : Int))) _ _ r3) (by rw [irow_size, zr_len, hcells_size _ _ _ hbl hpl]; omega) (hcells_setpart _ _ _ _ hbl hpl (zr_len 64)) (info24 _ (zr_len 64)) (irow_one _ _) ?_) | fail)
        have r5 := setRow_heap _ g _ (hcells BW (zr 64) ((A : Int) + (n : Int))) _ _ (setRow_heap w4 g _ (hcells BW NP ((A : Int) + (n : Int))) _ _ r3)
        replace hw := grown_setRow (hcells BW (zr 64) ((A : Int) + (n : Int))) (grown_setRow (hcells BW NP ((A : Int) + (n : Int))) hw)
        generalize (w4.setRow g (hcells BW NP ((A : Int) + (n : Int)))).setRow g (hcells BW (zr 64) ((A : Int) + (n : Int))) = w6 at *
        simp only [Act.put]
        refine ⟨?_, ?measure⟩
        apply Exists.intro
        apply Exists.intro
        repeat apply Exists.intro
        refine ⟨?rel, rfl⟩
        case rel =>
          refine ⟨k + n, ao2, by have := em.out; omega, by have e1 := em.out; have e2 := eC.out; rw [show len - (k + n) = m - n by omega, show cap - (k + n) = C - n by omega], fun h => ⟨b0, off, rfl, ?_⟩, by rw [hnx'.out, hres.out]; exact r5, hw⟩
          rw [hao2 (by have e1 := em.out; omega), ← eo.out, Nat.add_assoc]
        case measure =>
          show m - n < m
          omega
    · obtain rfl : k = len := by omega
      have hd : decide ((0 : Int) < ((k - k : Nat) : Int)) = false := by simp
      have et : b.take k = b := List.take_of_length_le (by omega)
      rw [et] at rH
      go_wp2
      go_end0
      exact ⟨rfl, rH, hw⟩

end Go.Proofs.YtilgicikcjcdjaaDoor


namespace Go.Proofs.YtilgicikcjcdjaaDoor
set_option maxRecDepth 100000
open Go Go.RowKit Go.Sort
attribute [local go_sem] setCell_drewN alloc_drewN

theorem zH (W : World) : (Instr.alloc 80 true (.tuple #[])).run Tryd.prog W = .ok (.pointer (some ⟨W.heap.size, 0, none⟩)) (W.alloc (.cells (hcells (zr 8) (zr 64) 0) 80)) := by kernel_rfl
theorem bH (cs : Array Value) (W : World) : (Instr.box 80 (.agg cs)).run Tryd.prog W = .ok (.pointer (some ⟨W.heap.size, 0, none⟩)) (W.alloc (.cells cs 80)) := by kernel_rfl
theorem nbuilt : Tryd.prog.built 80 [(0, .agg (irow .u32 sl))] = some (hst []) := by kernel_rfl
theorem infoH (ws ps : List Int) (sz : Int) (h1 : ws.length = 8) (h2 : ps.length = 64) : (Tryd.prog.info? 80).map (·.size) = some (hcells ws ps sz).size := by
  rw [hcells_size _ _ _ h1 h2]; kernel_rfl
theorem infoS (bs : List Int) : (Tryd.prog.info? 80).map (·.size) = some (hst bs).size := infoH _ _ _ (hwords_len bs) (hpart_len bs)
theorem fitS (bs : List Int) : (hcells (zr 8) (zr 64) 0).size = (hst bs).size := by
  rw [hcells_size _ _ _ (zr_len 8) (zr_len 64), hst, hcells_size _ _ _ (hwords_len bs) (hpart_len bs)]
theorem fitSS (a b : List Int) : (hst a).size = (hst b).size := (fitS a).symm.trans (fitS b)
set_option maxRecDepth 100000 in
set_option maxHeartbeats 2000000 in
theorem a_new (w : World) (hS : Sta w) : Calls Tryd.prog 45 #[] w fun e w' => e = .returned (.pointer (some ⟨w.heap.size, 0, none⟩)) ∧ w'.heap[w.heap.size]? = some (.cells (hst []) 80 (0, 0)) ∧ Below w.heap.size w w' := by
  obtain ⟨t, fr, h⟩ := hS
  have R0 := hp1_0 w (.cells (hst []) 80)
  have HW : Below w.heap.size w (w.alloc (.cells (hst []) 80)) := (Below.refl _ _).alloc (Nat.le_refl _) _
  go_enter Tryd.func45, Tryd.ntmps45
  go_wp2_with (first | (refine wpList_load_want rfl 77 _ rfl 0 rfl t (irow .u32 sl) fr _ h Tryd.underlying77 rfl (info23 sl rfl) ?_) | (refine wpList_build_as rfl 80 _ rfl [(0, .agg (irow .u32 sl))] rfl (hst []) nbuilt ?_) | (refine wpList_box rfl 80 _ rfl _ rfl (bH _) ?_) | fail)
  go_ret
  exact ⟨rfl, R0, HW⟩
set_option maxRecDepth 100000 in
set_option maxHeartbeats 2000000 in
theorem a_clone (bs : List Int) (g : Nat) (w : World) (rH : w.heap[g]? = some (.cells (hst bs) 80 (0, 0))) : Calls Tryd.prog 42 #[.pointer (some ⟨g, 0, none⟩)] w fun e w' => e = .returned (.pointer (some ⟨w.heap.size, 0, none⟩)) ∧ w'.heap[w.heap.size]? = some (.cells (hst bs) 80 (0, 0)) ∧ Below w.heap.size w w' := by
  have R0 := hp1_0 w (.cells (hst bs) 80)
  have HW : Below w.heap.size w (w.alloc (.cells (hst bs) 80)) := (Below.refl _ _).alloc (Nat.le_refl _) _
  go_enter Tryd.func42, Tryd.ntmps42
  go_wp2_with (first | (refine wpList_load_want rfl 80 _ rfl g rfl 80 (hst bs) (0, 0) _ rH Tryd.underlying80 rfl (infoS _) ?_) | (refine wpList_alloc rfl 80 rfl (hcells (zr 8) (zr 64) 0) zH ?_) | (refine wpList_store_row rfl 80 _ _ rfl (w.heap.size) (hst bs) rfl rfl 80 _ (hp1_0 w _) (infoS _) (fitS _) (hcells_one _ _ _) ?_; rw [setRow_alloc_new _ _ _ _ _ _ rfl]) | fail)
  go_ret
  exact ⟨rfl, R0, HW⟩
theorem sumW_eq (bs : List Int) : hwords (bs ++ padL bs.length) = sumW bs := rfl
set_option maxRecDepth 100000 in
set_option maxHeartbeats 4000000 in
theorem a_hsum (bs : List Int) (g : Nat) (w : World) (hK : Kon w) (rH : w.heap[g]? = some (.cells (hst bs) 80 (0, 0))) (hz : ∀ z ∈ bs, 0 ≤ z ∧ z < 256) (hlim : bs.length ≤ 4611686018427387000) : Calls Tryd.prog 41 #[.pointer (some ⟨g, 0, none⟩)] w fun e w' => e = .returned (.agg (irow .u8 (sumL bs))) ∧ Below w.heap.size w w' := by
  have lg := lt_of_row rH
  have hpb := plen_bd bs.length
  have hpl := padL_len bs.length
  have r0 := hp2_0 w (.cells (irow .u8 (zr 32)) 26) (.cells (hst bs) 80)
  have r1 := hp2_1 w (.cells (irow .u8 (zr 32)) 26) (.cells (hst bs) 80)
  have hw : Below w.heap.size w ((w.alloc (.cells (irow .u8 (zr 32)) 26)).alloc (.cells (hst bs) 80)) := ((Below.refl _ _).alloc (Nat.le_refl _) _).alloc (by simp) _
  have rH0 : (w.alloc (.cells (irow .u8 (zr 32)) 26)).heap[g]? = some (.cells (hst bs) 80 (0, 0)) := keep ((Below.refl _ _).alloc (Nat.le_refl _) _) rH
  have csz := cell_of (keep hw rH) (hcells_at _ _ _ (hwords_len bs) (hpart_len bs))
  have f4 := hK.below hw
  have hk1 := hK.sz
  have cP := a_pad bs.length (by omega)
  go_enter Tryd.func41, Tryd.ntmps41
  go_wp2_with (first | (refine wpList_alloc rfl 26 rfl (irow .u8 (zr 32)) zkey ?_) | (refine wpList_load_want rfl 80 _ rfl g rfl 80 (hst bs) (0, 0) _ rH0 Tryd.underlying80 rfl (infoS _) ?_) | (refine wpList_alloc rfl 80 rfl (hcells (zr 8) (zr 64) 0) zH ?_) | (refine wpList_store_row rfl 80 _ _ rfl ((w.alloc (.cells (irow .u8 (zr 32)) 26)).heap.size) (hst bs) rfl rfl 80 _ (hp1_0 (w.alloc (.cells (irow .u8 (zr 32)) 26)) _) (infoS _) (fitS _) (hcells_one _ _ _) ?_; rw [setRow_alloc_new _ _ _ _ _ _ rfl]) | fail)
  try simp only [size_alloc1, Act.put, List.setIfInBounds_toArray, List.set_cons_succ, List.set_cons_zero]
  have ysz : ((w.alloc (.cells (irow .u8 (zr 32)) 26)).alloc (.cells (hst bs) 80)).heap.size = w.heap.size + 1 + 1 := by rw [size_alloc1, size_alloc1]
  generalize ((w.alloc (.cells (irow .u8 (zr 32)) 26)).alloc (.cells (hst bs) 80)) = w0 at *
  refine (cP w0).mono ?_
  rintro e_ w1 ⟨vp, gp, rfl, rfl, hgp, rp, hb⟩
  replace r0 := keep hb r0
  replace r1 := keep hb r1
  replace f4 := f4.below hb
  replace hw := Below.after hw hb
  clear hb csz rH0 cP
  have hBp : Bys w1 (.slice (some ⟨gp, 0, none⟩) (plen bs.length) (plen bs.length)) (padL bs.length) := by rw [← hpl]; exact Bys.of_row rp (by omega) (padL_bd _) _
  have cW := a_write bs (padL bs.length) (w.heap.size + 1) w1 _ r1 hBp (fun a l c h _ => by cases h; show gp ≠ w.heap.size + 1; omega) (fun a l c h => by cases h; exact Nat.le_refl _) (by omega) f4 hz (by rw [hpl]; omega)
  go_wp2_with (fail)
  refine cW.mono ?_
  rintro e_ w2 ⟨rfl, r2, hgr⟩
  have l0 := lt_of_row r0
  replace r0 : w2.heap[w.heap.size]? = _ := (hgr.block _ l0 (by intro e; injection e with e; omega)).trans r0
  replace hw := hw.grown hgr hw.size (fun k h => by injection h with h; omega)
  clear hgr cW r1 hBp rp f4
  have hW8 := sumW_len bs
  have hWb := sumW_bd bs
  have hSl := sumL_len bs
  have cT := a_told (sumW bs) hW8 hWb
  rw [show byts (sumW bs) = sumL bs from rfl] at cT
  rw [hst, sumW_eq] at r2
  have hq64 := hpart_len (bs ++ padL bs.length)
  generalize hpart (bs ++ padL bs.length) = PS at *
  generalize (((bs ++ padL bs.length).length : Nat) : Int) = SZ at *
  generalize sumW bs = SW at *
  have hpw : (hcells SW PS SZ).extract 0 (0 + (irow .u32 SW).size) = irow .u32 SW := by rw [irow_size, hW8]; exact hcells_words _ _ _ hW8
  clear hWb hpl hpb
  go_wp2_with (first | (refine wpList_load_part rfl 77 _ rfl (w.heap.size + 1) 0 rfl 80 (hcells SW PS SZ) (0, 0) (irow .u32 SW) _ r2 hpw Tryd.underlying77 rfl (info23 _ hW8) ?_) | fail)
  refine (cT.at _).mono ?_
  rintro e_ w3 ⟨rfl, hb⟩
  replace r0 := keep hb r0
  replace hw := Below.after hw hb
  clear hb cT
  go_wp2_with (first | (refine wpList_store_row rfl 26 _ _ rfl (w.heap.size) (irow .u8 (sumL bs)) rfl rfl 26 _ r0 (infok8 _ hSl) (fit32 _ _ (zr_len 32) hSl) (irow_one _ _) ?_) | fail)
  replace r0 := setRow_heap w3 (w.heap.size) _ (irow .u8 (sumL bs)) _ _ r0
  replace hw := below_setRow hw (Nat.le_refl _) (irow .u8 (sumL bs))
  generalize w3.setRow (w.heap.size) (irow .u8 (sumL bs)) = w9 at *
  exact bodyPost_ret (v := .agg (irow .u8 (sumL bs))) (results_cell_row Tryd.results41 _ _ (w.heap.size) _ _ _ _ rfl r0 Tryd.underlying26 rfl (infok8 _ hSl)) rfl ⟨rfl, hw⟩
set_option maxRecDepth 100000 in
set_option maxHeartbeats 4000000 in
theorem a_sum (bs : List Int) (w : World) (v : Value) (hS : Sta w) (hK : Kon w) (hB : Bys w v bs) (hcap : ∀ a l c, v = .slice a l c → l ≤ c) (hlim : bs.length ≤ 4611686018427387000) : Calls Tryd.prog 44 #[v] w fun e w' => e = .returned (.agg (irow .u8 (sumL bs))) ∧ Below w.heap.size w w' := by
  have r0 := hp1_0 w (.cells (irow .u8 (zr 32)) 26)
  have hw : Below w.heap.size w (w.alloc (.cells (irow .u8 (zr 32)) 26)) := (Below.refl _ _).alloc (Nat.le_refl _) _
  have f0 := hS.below hw
  have f4 := hK.below hw
  have hk1 := hK.sz
  have hB0 := hB.keep hw
  obtain ⟨ao, cap, rfl, _, hc, hz⟩ := hB
  replace hcap := hcap _ _ _ rfl
  have hSl := sumL_len bs
  have hne : ∀ a, ao = some a → 0 < bs.length → a.block < w.heap.size := by
    rintro a rfl hl
    obtain ⟨b0, off, e, hb, _⟩ := hc 0 hl
    cases e
    exact hb
  clear hc
  go_enter Tryd.func44, Tryd.ntmps44
  go_wp2_with (first | (refine wpList_alloc rfl 26 rfl (irow .u8 (zr 32)) zkey ?_) | fail)
  try simp only [size_alloc1, Act.put, List.setIfInBounds_toArray, List.set_cons_succ, List.set_cons_zero]
  have ysz : (w.alloc (.cells (irow .u8 (zr 32)) 26)).heap.size = w.heap.size + 1 := size_alloc1 _ _
  generalize (w.alloc (.cells (irow .u8 (zr 32)) 26)) = w0 at *
  refine (a_new w0 f0).mono ?_
  rintro e_ w1 ⟨rfl, r1, hb⟩
  replace r0 := keep hb r0
  replace hB0 := hB0.keep hb
  replace f4 := f4.below hb
  replace hw := Below.after hw hb
  clear hb f0
  rw [ysz] at r1 ⊢
  clear ysz
  have cW := a_write [] bs (w.heap.size + 1) w1 _ r1 hB0 (fun a l c h hl => by cases h; have := hne a rfl hl; omega) (fun a l c h => by cases h; exact hcap) (by omega) f4 (by simp) (by simp; omega)
  rw [List.nil_append] at cW
  go_wp2_with (fail)
  refine cW.mono ?_
  rintro e_ w2 ⟨rfl, r2, hgr⟩
  have l0 := lt_of_row r0
  replace r0 : w2.heap[w.heap.size]? = _ := (hgr.block _ l0 (by intro e; injection e with e; omega)).trans r0
  replace f4 := f4.grown hgr (by omega)
  replace hw := hw.grown hgr hw.size (fun k h => by injection h with h; omega)
  clear hgr cW r1
  have cS := a_hsum bs (w.heap.size + 1) w2 f4 r2 hz hlim
  go_wp2_with (fail)
  refine cS.mono ?_
  rintro e_ w3 ⟨rfl, hb⟩
  replace r0 := keep hb r0
  replace hw := Below.after hw hb
  clear hb cS
  go_wp2_with (first | (refine wpList_store_row rfl 26 _ _ rfl (w.heap.size) (irow .u8 (sumL bs)) rfl rfl 26 _ r0 (infok8 _ hSl) (fit32 _ _ (zr_len 32) hSl) (irow_one _ _) ?_) | fail)
  replace r0 := setRow_heap w3 (w.heap.size) _ (irow .u8 (sumL bs)) _ _ r0
  replace hw := below_setRow hw (Nat.le_refl _) (irow .u8 (sumL bs))
  generalize w3.setRow (w.heap.size) (irow .u8 (sumL bs)) = w9 at *
  exact bodyPost_ret (v := .agg (irow .u8 (sumL bs))) (results_cell_row Tryd.results44 _ _ (w.heap.size) _ _ _ _ rfl r0 Tryd.underlying26 rfl (infok8 _ hSl)) rfl ⟨rfl, hw⟩

end Go.Proofs.YtilgicikcjcdjaaDoor


namespace Go.Proofs.YtilgicikcjcdjaaDoor
set_option maxRecDepth 100000
open Go Go.RowKit Go.Sort

/-! A hash that lies at the head of a greater row. -/
def hcx (R : List Value) (ws ps : List Int) (sz : Int) : Array Value := (ws.map (Value.int .u32) ++ (ps.map (Value.int .u8) ++ (Value.int .u64 sz :: R))).toArray
def hsx (R : List Value) (bs : List Int) : Array Value := hcx R (hwords bs) (hpart bs) (bs.length : Int)
theorem hsx_nil (bs : List Int) : hsx [] bs = hst bs := rfl
theorem hsx_eq (R : List Value) (bs : List Int) : hsx R bs = hst bs ++ R.toArray := by
  apply Array.ext'
  simp [hsx, hcx, hst, hcells]
theorem hsx_less (R : List Value) (a c : List Int) (h : a.length % 64 + c.length < 64) : hsx R (a ++ c) = hcx R (hwords a) (prt (wat (a ++ c) (a.length / 64)) (a.length % 64 + c.length)) ((a.length : Int) + c.length) := by
  have e1 : (a ++ c).length / 64 = a.length / 64 := by rw [List.length_append]; omega
  have e2 : (a ++ c).length % 64 = a.length % 64 + c.length := by rw [List.length_append]; omega
  unfold hsx hwords hpart
  rw [e1, e2, fol_append _ _ _ _ (by omega), List.length_append]
  rfl
theorem hsx_full (R : List Value) (a c : List Int) (h : a.length % 64 + c.length = 64) : hsx R (a ++ c) = hcx R (blk (hwords a) (prt (wat (a ++ c) (a.length / 64)) 64)) (zr 64) ((a.length : Int) + c.length) := by
  have e1 : (a ++ c).length / 64 = a.length / 64 + 1 := by rw [List.length_append]; omega
  have e2 : (a ++ c).length % 64 = 0 := by rw [List.length_append]; omega
  unfold hsx hwords hpart
  rw [e1, e2, fol, fol_append _ _ _ _ (by omega), List.length_append, prt_zero]
  rfl
theorem hcx_size (R : List Value) (ws ps : List Int) (sz : Int) (h1 : ws.length = 8) (h2 : ps.length = 64) : (hcx R ws ps sz).size = 73 + R.length := by simp [hcx, h1, h2]; omega
theorem hcx_words (R : List Value) (ws ps : List Int) (sz : Int) (h1 : ws.length = 8) : (hcx R ws ps sz).extract 0 (0 + 8) = irow .u32 ws := by
  apply Array.ext'
  simp [hcx, irow, h1]
theorem hcx_part (R : List Value) (ws ps : List Int) (sz : Int) (h1 : ws.length = 8) (h2 : ps.length = 64) : (hcx R ws ps sz).extract 8 (8 + 64) = irow .u8 ps := by
  apply Array.ext'
  simp [hcx, irow, h1, h2]
theorem hcx_eq (R : List Value) (ws ps : List Int) (sz : Int) : hcx R ws ps sz = hcells ws ps sz ++ R.toArray := by
  apply Array.ext'
  simp [hcx, hcells]
theorem hcx_whole (R : List Value) (ws ps : List Int) (sz : Int) (h1 : ws.length = 8) (h2 : ps.length = 64) : (hcx R ws ps sz).extract 0 (0 + (hcells ws ps sz).size) = hcells ws ps sz := by
  have h := hcells_size ws ps sz h1 h2
  apply Array.ext'
  rw [h, Array.toList_extract, hcx_eq, Array.toList_append, List.extract_eq_take_drop, List.drop_zero, Nat.zero_add, Nat.sub_zero, List.take_left' (by rw [Array.length_toList, h])]
theorem hcx_at (R : List Value) (ws ps : List Int) (sz : Int) (h1 : ws.length = 8) (h2 : ps.length = 64) : (hcx R ws ps sz)[72]? = some (.int .u64 sz) := by
  rw [hcx_eq, Array.getElem?_append_left (by rw [hcells_size _ _ _ h1 h2]; decide)]
  exact hcells_at ws ps sz h1 h2
theorem hcx_setsz (R : List Value) (ws ps : List Int) (sz z : Int) (h1 : ws.length = 8) (h2 : ps.length = 64) : (hcx R ws ps sz).setIfInBounds 72 (.int .u64 z) = hcx R ws ps z := by
  apply Array.ext'
  simp [hcx, h1, h2]
theorem hcx_copy (R : List Value) (ws ps c : List Int) (sz : Int) (o : Nat) (h1 : ws.length = 8) (h2 : ps.length = 64) (hc : o + c.length ≤ 64) : ((hcx R ws ps sz).toList.take (8 + o) ++ c.map (Value.int .u8) ++ (hcx R ws ps sz).toList.drop (8 + o + (c.map (Value.int .u8)).length)).toArray = hcx R ws (ps.take o ++ c ++ ps.drop (o + c.length)) sz := by
  apply Array.ext'
  have e1 : 8 + o - ws.length = o := by omega
  have e2 : 8 + o + c.length - ws.length = o + c.length := by omega
  simp only [hcx, List.length_map, List.take_append, List.drop_append, h1, h2, List.map_append, List.map_take, List.map_drop]
  rw [List.take_of_length_le (show (ws.map (Value.int .u32)).length ≤ 8 + o by simp; omega), List.drop_eq_nil_of_le (show (ws.map (Value.int .u32)).length ≤ 8 + o + c.length by simp; omega), show 8 + o - 8 = o by omega, show 8 + o + c.length - 8 = o + c.length by omega, show o - 64 = 0 by omega, show o + c.length - 64 = 0 by omega]
  simp [List.append_assoc]
theorem hcx_setwords (R : List Value) (ws vs ps : List Int) (sz : Int) (h1 : ws.length = 8) (h2 : ps.length = 64) (h3 : vs.length = 8) : ovw (hcx R ws ps sz) 0 (irow .u32 vs).toList = hcx R vs ps sz := by
  apply Array.ext'
  rw [ovw_list _ _ _ (by rw [hcx_size _ _ _ _ h1 h2]; simp [irow, h3]; omega)]
  simp [hcx, irow, h1, h3]
theorem hcx_setpart (R : List Value) (ws ps qs : List Int) (sz : Int) (h1 : ws.length = 8) (h2 : ps.length = 64) (h3 : qs.length = 64) : ovw (hcx R ws ps sz) 8 (irow .u8 qs).toList = hcx R ws qs sz := by
  apply Array.ext'
  rw [ovw_list _ _ _ (by rw [hcx_size _ _ _ _ h1 h2]; simp [irow, h3]; omega)]
  simp only [hcx, irow, h1, h3, List.length_map, List.take_append, List.take_of_length_le (show (ws.map (Value.int .u32)).length ≤ 8 by simp; omega)]
  rw [show 8 - 8 = 0 from rfl, List.take_zero, ← List.append_assoc (ws.map (Value.int .u32)) (ps.map (Value.int .u8)), List.drop_left' (by simp; omega)]
  simp
end Go.Proofs.YtilgicikcjcdjaaDoor

namespace Go.Proofs.YtilgicikcjcdjaaDoor
set_option maxRecDepth 100000
open Go Go.RowKit Go.Sort
attribute [local go_sem] setCell_drewN alloc_drewN

theorem copy_partR {W : World} {R : List Value} {t : TypeId} {g r b0 o n : Nat} {ws ps c : List Int} {sz : Int} (hg : W.heap[g]? = some (.cells (hcx R ws ps sz) t (0, 0))) (h1 : ws.length = 8) (h2 : ps.length = 64) (hc : ∀ j, j < c.length → W.cell? ⟨b0, o + j, none⟩ = some (.int .u8 (c.getD j 0))) (hn : c.length = n) (hr : r + n ≤ 64) :
    (Builtin.copy_ #[67, 67] 3 #[.slice (some ⟨g, 8 + r, none⟩) (64 - r) (64 - r), .slice (some ⟨b0, o, none⟩) n n]).run Tryd.prog W = .ok (goInt n) (W.setRow g (hcx R ws (ps.take r ++ c ++ ps.drop (r + n)) sz)) := by
  have hsrc : ∀ j u, (c.map (Value.int .u8))[j]? = some u → W.cell? ((⟨b0, o, none⟩ : Addr).add j) = some u := by
    intro j u hu
    have hj : j < c.length := by have := (List.getElem?_eq_some_iff.1 hu).1; simpa using this
    have : u = .int .u8 (c.getD j 0) := by
      simp only [List.getElem?_map, List.getElem?_eq_getElem hj, Option.map_some, Option.some.injEq] at hu
      rw [← hu, List.getD_eq_getElem?_getD, List.getElem?_eq_getElem hj]; rfl
    rw [this, addr_add]
    exact hc j hj
  have hrun := run_copy_row (P := Tryd.prog) W 67 67 3 5 g (8 + r) (64 - r) (64 - r) ⟨b0, o, none⟩ n n (hcx R ws ps sz) t (c.map (Value.int .u8)) Tryd.underlying67 (by kernel_rfl) hg (by rw [List.length_map, hn]; exact (Nat.min_eq_left (by omega)).symm) hsrc (by rw [hcx_size R _ _ _ h1 h2, List.length_map]; omega) (ints_one .u8 c)
  rw [hcx_copy R ws ps c sz r h1 h2 (by omega), List.length_map, hn] at hrun
  exact hrun
set_option maxRecDepth 100000 in
set_option maxHeartbeats 8000000 in
theorem a_writeR (R : List Value) (t : TypeId) (bs b : List Int) (g : Nat) (w : World) (v : Value) (hH : w.heap[g]? = some (.cells (hsx R bs) t (0, 0))) (hB : Bys w v b) (hne : ∀ a l c, v = .slice (some a) l c → 0 < l → a.block ≠ g) (hcap : ∀ a l c, v = .slice a l c → l ≤ c) (hg1 : 1 < g) (hK : Kon w) (hzb : ∀ z ∈ bs, 0 ≤ z ∧ z < 256) (hlim : bs.length + b.length ≤ 4611686018427387904) :
    Calls Tryd.prog 31 #[.pointer (some ⟨g, 0, none⟩), v] w fun e w' => e = .returned (.tuple #[]) ∧ w'.heap[g]? = some (.cells (hsx R (bs ++ b)) t (0, 0)) ∧ w.grownBy w' (some g) := by
  obtain ⟨ao, cap, rfl, hl63, hc, hz⟩ := hB
  replace hcap := hcap _ _ _ rfl
  generalize elen : b.length = len at *
  have hgl := lt_of_row hH
  go_enter Tryd.func31, Tryd.ntmps31
  go_wp2_with (fail)
  go_loopw [1] (fun x wr => ∃ (k : Nat) (ao' : Option Addr), k ≤ len ∧ x = .slice ao' (len - k) (cap - k) ∧ (k < len → ∃ b0 off, ao = some ⟨b0, off, none⟩ ∧ ao' = some ⟨b0, off + k, none⟩) ∧ wr.heap[g]? = some (.cells (hsx R (bs ++ b.take k)) t (0, 0)) ∧ w.grownBy wr (some g)) (fun x _ => slen x)
  case atStart =>
    refine ⟨0, ao, by omega, rfl, fun h => ?_, by simpa using hH, World.grownBy.refl _ _⟩
    obtain ⟨b0, off, e, _⟩ := hc 0 h
    exact ⟨b0, off, e, e⟩
  case round =>
    obtain ⟨k, ao', hk, rfl, hadr, rH, hw⟩ := hrel
    by_cases hlt : k < len
    · obtain ⟨b0, off, rfl, rfl⟩ := hadr hlt
      have hb0 := hne _ _ _ rfl (by omega)
      replace hb0 : b0 ≠ g := hb0
      have hcell : ∀ j, j < len → wr.cell? ⟨b0, off + j, none⟩ = some (.int .u8 (b.getD j 0)) := fun j hj => by
        obtain ⟨b1, o1, e, hb1, hb2⟩ := hc j hj
        cases e
        exact hw.cell hb2 (by intro e; injection e with e; exact hb0 e)
      have f4 : Kon wr := by
        obtain ⟨t, fr, h⟩ := hK
        exact ⟨t, fr, (hw.block 1 (Array.getElem?_eq_some_iff.1 h).1 (by intro e; injection e with e; omega)).trans h⟩
      have hal : (bs ++ b.take k).length = bs.length + k := by rw [List.length_append, List.length_take]; omega
      have hab : ∀ z ∈ bs ++ b.take k, 0 ≤ z ∧ z < 256 := both_bd hzb (fun z h => hz z (List.mem_of_mem_take h))
      have hnx : ∀ n, bs ++ b.take (k + n) = bs ++ b.take k ++ (b.drop k).take n := fun n => by rw [List.append_assoc, ← List.take_add]
      have hgl2 := lt_of_row rH
      clear hadr hne hc hH hK hzb
      generalize bs ++ b.take k = a at *
      have hw8 := hwords_len a
      have hp64 := hpart_len a
      have hless := hsx_less R a
      have hfull := hsx_full R a
      have hwat := wat_bd (bs := a)
      have hover := fun c => part_over a c (a.length / 64) (a.length % 64) (by omega)
      rw [show prt (wat a (a.length / 64)) (a.length % 64) = hpart a from rfl] at hover
      rw [hsx] at rH
      have csz := cell_of rH (hcx_at R _ _ _ hw8 hp64)
      generalize eA : a.length = A at *
      obtain ⟨r, er⟩ : ∃ r : Nat, r = A % 64 := ⟨_, rfl⟩
      have hr : r < 64 := by omega
      have eri : (A : Int) % 64 = (r : Int) := by omega
      rw [← er] at hover hless hfull
      generalize A / 64 = q at *
      generalize hwords a = ws at *
      generalize hpart a = ps at *
      obtain ⟨m, em⟩ : ∃ m : Nat, m = len - k := ⟨_, rfl⟩
      rw [← em]
      have hm : 0 < m := by omega
      obtain ⟨C, eC⟩ : ∃ C : Nat, C = cap - k := ⟨_, rfl⟩
      rw [← eC]
      have hmC : m ≤ C := by omega
      have hAl : A ≤ 4611686018427387904 := by omega
      have hAm : A + m ≤ 4611686018427387904 := by omega
      clear hwat
      -- how many bytes the block takes up
      obtain ⟨n, hn1, hnm, hn64, hdec⟩ : ∃ n : Nat, 0 < n ∧ n ≤ m ∧ r + n ≤ 64 ∧ ((n = m ∧ m < 64 - r) ∨ (n = 64 - r ∧ 64 - r ≤ m)) := by
        by_cases h : m < 64 - r
        · exact ⟨m, hm, Nat.le_refl _, by omega, .inl ⟨rfl, h⟩⟩
        · exact ⟨64 - r, by omega, by omega, by omega, .inr ⟨rfl, by omega⟩⟩
      have hcl : ((b.drop k).take n).length = n := by rw [List.length_take, List.length_drop]; omega
      have hcs : ∀ j, j < ((b.drop k).take n).length → wr.cell? ⟨b0, off + k + j, none⟩ = some (.int .u8 (((b.drop k).take n).getD j 0)) := fun j hj => by
        rw [hcl] at hj
        have := hcell (k + j) (by omega)
        rw [← Nat.add_assoc] at this
        rw [this, List.getD_eq_getElem?_getD, List.getD_eq_getElem?_getD, List.getElem?_take_of_lt hj, List.getElem?_drop]
      have hnx' := hnx n
      have hov := hover ((b.drop k).take n) (by rw [hcl]; exact hn64)
      have hls := hless ((b.drop k).take n)
      have hfl := hfull ((b.drop k).take n)
      have hcb : ∀ z ∈ a ++ (b.drop k).take n, 0 ≤ z ∧ z < 256 := both_bd hab (fun z h => hz z (List.mem_of_mem_drop (List.mem_of_mem_take h)))
      have hpo := prt_bd (wat_bd hcb q) 64
      rw [hcl] at hov hls hfl
      clear hover hless hfull hnx hcell hcb hab hz
      generalize (b.drop k).take n = c at *
      generalize eo : off + k = o at *
      replace eo := hide eo
      have sl1 := slice_part g r hr
      have sl2 := slice_first ⟨b0, o, none⟩ m C n (by omega)
      rw [if_neg (show ¬ n = 0 by omega), addr_add, Nat.add_zero] at sl2
      obtain ⟨ao2, hao2, sl3⟩ := slice_rest b0 o m C n hnm hmC
      have hpl : (ps.take r ++ c ++ ps.drop (r + n)).length = 64 := by rw [hov, prt_len]
      have hcp := fun (W : World) (rW : W.heap[g]? = some (.cells (hcx R ws ps (A : Int)) t (0, 0))) hcW => copy_partR (W := W) (r := r) (b0 := b0) (o := o) (c := c) rW hw8 hp64 hcW hcl hn64
      rw [hov] at hpl
      simp only [hov] at hcp
      replace hov := hide hov
      replace hnx' := hide hnx'
      replace hls := hide hls
      replace hfl := hide hfl
      replace hpo := hide hpo
      have hAn : (A : Int) + (n : Int) < 18446744073709551616 := by omega
      rcases hdec with ⟨hE, hE2⟩ | ⟨hE, hE2⟩
      · have e64 : ¬ ((64 : Int) - (r : Int) ≤ (m : Int)) := by omega
        have hmod : (((A : Int) + (n : Int)) % 64 == 0) = false := by rw [beq_eq_false_iff_ne]; omega
        clear er hal hlim hl63
        replace em := hide em
        replace eC := hide eC
        replace elen := hide elen
        subst hE
        go_wp2
        refine wp_region_alloc_ex 9 9 [] (fun _ => .cells #[] 0 (0, 0)) (by kernel_rfl) (by decide) (by decide) (by kernel_rfl) (by kernel_rfl) (by kernel_rfl) (by kernel_rfl) (by kernel_rfl) (by kernel_rfl) (by kernel_rfl) (by kernel_rfl) (by decide) (by decide) ?_ ?_
        · intro s l u
          omega
        apply Exists.intro
        constructor
        · intro v_ hb
          clear hb; dsimp only [List.take]
          go_big_quiet_step (fail)
          go_big_quiet_step (fail)
          go_big_quiet_step (fail)
          go_big_quiet_step (fail)
          go_big_quiet_step (fail)
          go_big_quiet_step (fail)
          go_big_quiet_step (fail)
          go_big_quiet_step (fail)
          go_big_quiet_step (fail)
          refine wpQuiet_nil ?_
          rfl
        intro w1 g_ hb _ _
        simp only [List.drop, puts, ptrs, List.map, List.foldl, Act.put]

        have hcs1 : ∀ j, j < c.length → w1.cell? ⟨b0, o + j, none⟩ = some (.int .u8 (c.getD j 0)) := fun j hj => (hb.cell (p := ⟨b0, o + j, none⟩) (blk_lt (hcs j hj))).trans (hcs j hj)
        have rH1 := keep hb rH
        have hcopy := hcp w1 rH1 hcs1
        replace f4 := f4.below hb
        replace hw := grown_setRow (hcx R ws (prt (wat (a ++ c) q) (r + n)) (A : Int)) (grown_below hw hb)
        have r2 := setRow_heap w1 g _ (hcx R ws (prt (wat (a ++ c) q) (r + n)) (A : Int)) _ _ rH1
        replace f4 := f4.belowN (n := 1 + 1) (by omega) (below_setRow (Below.refl _ _) (show 1 + 1 ≤ g by omega) (hcx R ws (prt (wat (a ++ c) q) (r + n)) (A : Int)))
        have csz2 := cell_of r2 (hcx_at R _ _ _ hw8 hpl)
        have hf2 := row_frozen r2 72
        have r3 := heap_setCell_same _ g 72 _ _ (.int .u64 ((A : Int) + (n : Int))) r2
        rw [hcx_setsz R _ _ _ _ hw8 hpl] at r3
        replace hw := grown_setCell (j := 72) (v := .int .u64 ((A : Int) + (n : Int))) hw
        clear hcp hcs hcs1 rH rH1 csz hb sl1 sl2
        generalize w1.setRow g (hcx R ws (prt (wat (a ++ c) q) (r + n)) (A : Int)) = w2 at *
        go_wp2
        refine ⟨⟨k + n, ao2, by have := em.out; omega, by have e1 := em.out; have e2 := eC.out; rw [show len - (k + n) = 0 by omega, show cap - (k + n) = C - n by omega], fun h => by have e1 := em.out; omega, by rw [hnx'.out, hls.out (by omega)]; exact r3, hw⟩, ?_⟩
        simp [slen]; omega
      · have h64 : r + n = 64 := by omega
        have e64 : (64 : Int) - (r : Int) ≤ (m : Int) := by omega
        have hmod : (((A : Int) + (n : Int)) % 64 == 0) = true := by rw [beq_iff_eq]; omega
        rw [h64] at hpl
        simp only [h64] at hcp
        have en : (64 : Int) - (r : Int) = (n : Int) := by omega
        replace h64 := hide h64
        replace hE := hide hE
        clear er hal hlim hl63
        replace em := hide em
        replace eC := hide eC
        replace elen := hide elen
        go_wp2
        refine wp_region_alloc_ex 9 9 [] (fun _ => .cells #[] 0 (0, 0)) (by kernel_rfl) (by decide) (by decide) (by kernel_rfl) (by kernel_rfl) (by kernel_rfl) (by kernel_rfl) (by kernel_rfl) (by kernel_rfl) (by kernel_rfl) (by kernel_rfl) (by decide) (by decide) ?_ ?_
        · intro s l u
          omega
        apply Exists.intro
        constructor
        · intro v_ hb
          clear hb; dsimp only [List.take]
          go_big_quiet_step (fail)
          go_big_quiet_step (fail)
          go_big_quiet_step (fail)
          go_big_quiet_step (fail)
          go_big_quiet_step (fail)
          go_big_quiet_step (fail)
          go_big_quiet_step (fail)
          go_big_quiet_step (fail)
          go_big_quiet_step (fail)
          refine wpQuiet_nil ?_
          rfl
        intro w1 g_ hb _ _
        simp only [List.drop, puts, ptrs, List.map, List.foldl, Act.put]

        have hcs1 : ∀ j, j < c.length → w1.cell? ⟨b0, o + j, none⟩ = some (.int .u8 (c.getD j 0)) := fun j hj => (hb.cell (p := ⟨b0, o + j, none⟩) (blk_lt (hcs j hj))).trans (hcs j hj)
        have rH1 := keep hb rH
        have hcopy := hcp w1 rH1 hcs1
        replace f4 := f4.below hb
        replace hw := grown_setRow (hcx R ws (prt (wat (a ++ c) q) 64) (A : Int)) (grown_below hw hb)
        have r2 := setRow_heap w1 g _ (hcx R ws (prt (wat (a ++ c) q) 64) (A : Int)) _ _ rH1
        replace f4 := f4.belowN (n := 1 + 1) (by omega) (below_setRow (Below.refl _ _) (show 1 + 1 ≤ g by omega) (hcx R ws (prt (wat (a ++ c) q) 64) (A : Int)))
        have csz2 := cell_of r2 (hcx_at R _ _ _ hw8 hpl)
        have hf2 := row_frozen r2 72
        have r3 := heap_setCell_same _ g 72 _ _ (.int .u64 ((A : Int) + (n : Int))) r2
        rw [hcx_setsz R _ _ _ _ hw8 hpl] at r3
        replace hw := grown_setCell (j := 72) (v := .int .u64 ((A : Int) + (n : Int))) hw
        clear hcp hcs hcs1 rH rH1 csz hb sl1 sl2
        generalize w1.setRow g (hcx R ws (prt (wat (a ++ c) q) 64) (A : Int)) = w2 at *
        go_wp2
        have f5 := f4.belowN (n := 1 + 1) (by omega) ((Below.refl (1 + 1) w2).setCell (show 1 + 1 ≤ (⟨g, 72, none⟩ : Addr).block from hg1) (.int .u64 ((A : Int) + (n : Int))))
        have cB := a_block ws (prt (wat (a ++ c) q) 64) hw8 hpl hpo.out
        have hbl := blk_len ws (prt (wat (a ++ c) q) 64)
        have hres := hfl.out h64.out
        generalize w2.setCell ⟨g, 72, none⟩ (.int .u64 ((A : Int) + (n : Int))) = w3 at *
        clear hcopy r2 f4 csz2 hf2 hls hfl hov hpo
        generalize prt (wat (a ++ c) q) 64 = NP at *
        generalize blk ws NP = BW at *
        have hpw : (hcx R ws NP ((A : Int) + (n : Int))).extract 0 (0 + (irow .u32 ws).size) = irow .u32 ws := by rw [irow_size, hw8]; exact hcx_words R _ _ _ hw8
        have hpp : (hcx R ws NP ((A : Int) + (n : Int))).extract 8 (8 + (irow .u8 NP).size) = irow .u8 NP := by rw [irow_size, hpl]; exact hcx_part R _ _ _ hw8 hpl
        have HR := keepr r3
        replace hres := hide hres
        refine wp_region_tail (C := fun w' => ∃ p : Regrown, w' = grow (redrawn w3 p.d) p.os) 12 _ rfl rfl rfl (by kernel_rfl) (by kernel_rfl) (by kernel_rfl) (by kernel_rfl) ⟨⟨w3.drawn + 1, #[]⟩, by rw [grow_empty]; rfl⟩ ?_
        dsimp only [List.set, idle]
        go_big_quiet_step (fail)
        go_big_quiet_step (fail)
        go_big_quiet_step (fail)
        go_big_quiet_step (fail)
        refine wpQuiet_load_part rfl 77 _ rfl g 0 rfl t (hcx R ws NP ((A : Int) + (n : Int))) (0, 0) (irow .u32 ws) _ HR.out hpw Tryd.underlying77 rfl (info23 _ hw8) ?_
        simp only [Act.put, List.setIfInBounds_toArray, List.set_cons_succ, List.set_cons_zero]
        go_big_quiet_step (fail)
        go_big_quiet_step (fail)
        go_big_quiet_step (fail)
        refine wpQuiet_load_part rfl 78 _ rfl g 8 rfl t (hcx R ws NP ((A : Int) + (n : Int))) (0, 0) (irow .u8 NP) _ HR.out hpp Tryd.underlying78 rfl (info24 _ hpl) ?_
        simp only [Act.put, List.setIfInBounds_toArray, List.set_cons_succ, List.set_cons_zero]
        go_big_quiet_step (exact cB.re f5)
        go_big_quiet_step (fail)
        go_big_quiet_step (fail)
        refine wpQuiet_idle rfl rfl rfl ?_
        rintro _ ⟨p, rfl⟩
        have hb := below_regrown w3 p.d p.os
        generalize grow (redrawn w3 p.d) p.os = w4 at *
        replace r3 := keep hb r3
        replace hw := grown_below hw hb
        clear hb

        clear HR hpw hpp cB f5
        go_wp2_with (first | (refine wpList_store_part rfl 77 _ _ rfl g 0 (irow .u32 BW) rfl rfl t _ (hcx R BW NP ((A : Int) + (n : Int))) r3 (by rw [irow_size, hbl, hcx_size R _ _ _ hw8 hpl]; omega) (hcx_setwords R _ _ _ _ hw8 hpl hbl) (info23 _ hbl) (irow_one _ _) ?_) | (refine wpList_build_as rfl 78 _ rfl [] rfl (irow .u8 (zr 64)) zbuilt ?_) | (refine wpList_store_part rfl 78 _ _ rfl g 8 (irow .u8 (zr 64)) rfl rfl t _ (hcx R BW (zr 64) ((A : Int) + (n : Int))) (setRow_heap w4 g _ (hcx R BW NP ((A : Int) + (n : Int))) _ _ r3) (by rw [irow_size, zr_len, hcx_size R _ _ _ hbl hpl]; omega) (hcx_setpart R _ _ _ _ hbl hpl (zr_len 64)) (info24 _ (zr_len 64)) (irow_one _ _) ?_) | fail)
        have r5 := setRow_heap _ g _ (hcx R BW (zr 64) ((A : Int) + (n : Int))) _ _ (setRow_heap w4 g _ (hcx R BW NP ((A : Int) + (n : Int))) _ _ r3)
        replace hw := grown_setRow (hcx R BW (zr 64) ((A : Int) + (n : Int))) (grown_setRow (hcx R BW NP ((A : Int) + (n : Int))) hw)
        generalize (w4.setRow g (hcx R BW NP ((A : Int) + (n : Int)))).setRow g (hcx R BW (zr 64) ((A : Int) + (n : Int))) = w6 at *
        simp only [Act.put]
        refine ⟨?_, ?measure⟩
        apply Exists.intro
        apply Exists.intro
        repeat apply Exists.intro
        refine ⟨?rel, rfl⟩
        case rel =>
          refine ⟨k + n, ao2, by have := em.out; omega, by have e1 := em.out; have e2 := eC.out; rw [show len - (k + n) = m - n by omega, show cap - (k + n) = C - n by omega], fun h => ⟨b0, off, rfl, ?_⟩, by rw [hnx'.out, hres.out]; exact r5, hw⟩
          rw [hao2 (by have e1 := em.out; omega), ← eo.out, Nat.add_assoc]
        case measure =>
          show m - n < m
          omega
    · obtain rfl : k = len := by omega
      have hd : decide ((0 : Int) < ((k - k : Nat) : Int)) = false := by simp
      have et : b.take k = b := List.take_of_length_le (by omega)
      rw [et] at rH
      go_wp2
      go_end0
      exact ⟨rfl, rH, hw⟩

end Go.Proofs.YtilgicikcjcdjaaDoor

