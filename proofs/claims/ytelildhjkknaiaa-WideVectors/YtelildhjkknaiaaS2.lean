import Derived.Test.YtelildhjkknaiaaProg
import Derived.WalkKit
import Derived.WalkSpells
import Derived.WalkLawsBesides
import Derived.Lib.QuietBelow
import Derived.BigQuiet
import Derived.Test.YtelildhjkknaiaaS0
import Derived.Test.YtelildhjkknaiaaS1
import Derived.OwnWalk
import Derived.Lib.SlBytesConst
import Derived.Laws.Strings2
namespace Go.Proofs.Ytelildhjkknaiaa.Wi
open Go Go.RowKit Go.Sort
attribute [local go_sem] setCell_drewN alloc_drewN

/-- How long a slice is. -/
def slen : Value → Nat
  | .slice _ l _ => l
  | _ => 0
theorem slen_own {W : World} {b : Nat} {T : TypeId} {sz : Nat} {v : Value} {n : Nat} {xs : List Value} (h : W.ownsRow b T sz v n xs) : ∃ ao cap, v = .slice ao n cap := by
  obtain ⟨_, ⟨rfl, rfl⟩ | ⟨g, cap, cur, rfl, _⟩⟩ := h
  · exact ⟨_, _, rfl⟩
  · exact ⟨_, _, rfl⟩
set_option maxRecDepth 100000 in
theorem info8 : ∃ i, Try.prog.info? 5 = some i ∧ i.zero = some (.int .u8 0) ∧ i.size = 1 ∧ i.bytes = 1 := ⟨_, rfl, rfl, rfl, rfl⟩
/-- The beginning of the padding, by its length. -/
theorem pad_first (n : Nat) : (padL n).take 1 = [128] := by
  have hb := plen_bd n
  obtain ⟨m, hm⟩ : ∃ m, plen n = m + 1 := ⟨plen n - 1, by omega⟩
  simp [padL, padP, hm, List.range_succ_eq_map]
theorem pad_get (n j : Nat) (hj : j < plen n) : (padL n)[j]? = some (if j = 0 then 128 else if plen n - 16 ≤ j then pbit n (plen n - 1 - j) else 0) := by
  have hb := plen_bd n
  simp only [padL, padP, List.getElem?_map, List.getElem?_range hj, Option.map_some]
  congr 1
  split
  · rfl
  · by_cases h : plen n - 16 ≤ j
    · rw [if_pos h, if_pos (by omega)]
    · rw [if_neg h, if_neg (by omega)]
theorem pad_hi (n : Nat) (hn : n < 18446744073709551616) (i : Nat) (h : 9 ≤ i) : pbit n i = 0 := by
  unfold pbit
  have e : 2 ^ (8 * i) = 2 ^ (8 * 9) * 2 ^ (8 * (i - 9)) := by rw [← Nat.pow_add]; congr 1; omega
  have h1 : 8 * n / 2 ^ (8 * i) = 0 := by
    rw [e, ← Nat.div_div_eq_div_mul, show 8 * n / 2 ^ (8 * 9) = 0 by omega, Nat.zero_div]
  rw [h1]
  rfl
theorem take_next {α : Type} (l : List α) (k : Nat) (x : α) (h : l[k]? = some x) : l.take k ++ [x] = l.take (k + 1) := by
  rw [List.take_add_one, h]; rfl
theorem new_cell (wr : World) (x : Int) : ∀ j u, [Value.int .u8 x][j]? = some u → (wr.alloc (.cells #[.int .u8 x] 5)).cell? ((⟨wr.heap.size, 0, none⟩ : Addr).add j) = some u := by
  intro j u hu
  have hj : j = 0 := by
    have := (List.getElem?_eq_some_iff.1 hu).1
    simp at this
    exact this
  subst hj
  simp at hu
  subst hu
  rw [addr_add]
  have hg : (wr.alloc (.cells #[.int .u8 x] 5)).heap[wr.heap.size]? = some (.cells #[.int .u8 x] 5 (0, 0)) := hp1_0 wr _
  simp only [World.cell?, hg]
  rfl
set_option maxHeartbeats 2000000 in
theorem r_pad (n : Nat) (hn : n < 18446744073709551616) (w : World) : Calls Try.prog 18 #[.int .u64 (n : Int)] w fun e w' => ∃ v, e = .returned v ∧ w'.ownsRow w.heap.size 5 1 v (plen n) ((padL n).map (Value.int .u8)) ∧ Below w.heap.size w w' := by
  have hpb := plen_bd n
  obtain ⟨i0, hi, hz0, hz1, hz2⟩ := info8
  have hown0 : (w.alloc (.cells #[.int .u8 128] 5)).ownsRow w.heap.size 5 1 (.slice (some ⟨w.heap.size, 0, none⟩) 1 1) 1 (((padL n).take 1).map (Value.int .u8)) := by
    rw [pad_first]
    refine ⟨rfl, .inr ⟨w.heap.size, 1, #[.int .u8 128], rfl, Nat.le_refl _, hp1_0 w _, Nat.le_refl _, by decide, rfl, rfl⟩⟩
  have HW : Below w.heap.size w (w.alloc (.cells #[.int .u8 128] 5)) := (Below.refl _ _).alloc (Nat.le_refl _) _
  go_enter Try.func18, Try.ntmps18
  go_wp2
  generalize w.alloc (.cells #[.int .u8 128] 5) = w0 at *
  go_loopw [3] (fun v wr => ∃ k : Nat, 1 ≤ k ∧ k ≤ plen n - 16 ∧ wr.ownsRow w.heap.size 5 1 v k (((padL n).take k).map (Value.int .u8)) ∧ Below w.heap.size w wr) (fun v _ => 144 - slen v)
  case atStart => exact ⟨1, by omega, by omega, hown0, HW⟩
  case round =>
    clear hown0 HW
    obtain ⟨k, hk0, hk, hown, hw⟩ := hrel
    obtain ⟨ao, cap, rfl⟩ := slen_own hown
    by_cases hlt : k < plen n - 16
    · have hd : ((n : Int) % 128 + (k : Int) + 16) % 128 ≠ 0 := by unfold plen at hlt; omega
      have hown_ := hown.alloc (.cells #[.int .u8 0] 5)
      go_wp2_with (at_builtin; refine wpList_append_own _ rfl (.tmp 16) (.tmp 17) 22 rfl w.heap.size 5 i0 (.int .u8 0) 1 1 Try.underlying22 hi hz0 hz1 hz2 rfl (by decide) (.slice ao k cap) k _ rfl hown_ ⟨wr.heap.size, 0, none⟩ 1 1 [.int .u8 0] rfl rfl (new_cell wr 0) (by simp [Value.oneCell']) (by unfold maxLen; omega) (by omega) (by rw [size_alloc1]; exact Nat.le_succ_of_le hw.size) ?_)
      intro v' w2 hown2 hgrow _
      replace hw := (hw.alloc hw.size _).grown hgrow (by rw [size_alloc1]; exact Nat.le_succ_of_le hw.size) (fun k h => (hown_.lt k h).1)
      clear hown hown_ hgrow
      obtain ⟨ao', cap', rfl⟩ := slen_own hown2

      replace hown2 : w2.ownsRow w.heap.size 5 1 (.slice ao' (k + 1) cap') (k + 1) (((padL n).take (k + 1)).map (Value.int .u8)) := by
        rw [← take_next _ _ (0 : Int) (by rw [pad_get n k (by omega), if_neg (by omega), if_neg (by omega)]), List.map_append, List.map_take]; exact hown2
      go_wp2
      refine ⟨⟨k + 1, by omega, by omega, hown2, hw⟩, ?_⟩
      simp [slen]; omega
    · obtain rfl : k = plen n - 16 := by omega
      have hd : ((n : Int) % 128 + ((plen n - 16 : Nat) : Int) + 16) % 128 = 0 := by unfold plen; omega
      have hlo : ∀ k : Nat, k < 8 → IntKind.u64.wrap ((n : Int) * 8) / 2 ^ (8 * k) % 256 = pbit n k := fun k hk => by
        rw [IntKind.wrap_u64, Int.mul_comm]
        exact lo_bit n k hk
      have hhi : (n : Int) / 2305843009213693952 = pbit n 8 := by
        have := hi_bit n 0
        simp at this
        omega
      have hzr := pad_hi n hn
      have hget := pad_get n
      have hpl : (padL n).length = plen n := padP_len n 8
      generalize hm : plen n - 16 = m at *
      go_wp2
      go_loopw [3, 4] (fun v i wr => ∃ k : Nat, k ≤ 7 ∧ i = .int .i64 (k : Int) ∧ wr.ownsRow w.heap.size 5 1 v (m + k) (((padL n).take (m + k)).map (Value.int .u8)) ∧ Below w.heap.size w wr) (fun _ i _ => 7 - (intOf i).toNat)
      case atStart => exact ⟨0, by omega, rfl, hown, hw⟩
      case round =>
        clear hown hw hd
        obtain ⟨k, hk, rfl, hown, hw⟩ := hrel
        obtain ⟨ao2, cap2, rfl⟩ := slen_own hown
        by_cases hlt : k < 7
        · have hd : decide ((k : Int) < 7) = true := by simp; omega
          have hg := hget (m + k) (by omega)
          rw [if_neg (by omega), if_pos (by omega), hzr _ (by omega)] at hg
          clear hlo hhi hget hzr
          have hown_ := hown.alloc (.cells #[.int .u8 0] 5)
          go_wp2_with (at_builtin; refine wpList_append_own _ rfl (.tmp 23) (.tmp 24) 22 rfl w.heap.size 5 i0 (.int .u8 0) 1 1 Try.underlying22 hi hz0 hz1 hz2 rfl (by decide) (.slice ao2 (m + k) cap2) (m + k) _ rfl hown_ ⟨wr.heap.size, 0, none⟩ 1 1 [.int .u8 0] rfl rfl (new_cell wr 0) (by simp [Value.oneCell']) (by unfold maxLen; omega) (by omega) (by rw [size_alloc1]; exact Nat.le_succ_of_le hw.size) ?_)
          intro v' w2 hown2 hgrow _
          replace hw := (hw.alloc hw.size _).grown hgrow (by rw [size_alloc1]; exact Nat.le_succ_of_le hw.size) (fun k h => (hown_.lt k h).1)
          clear hown hown_ hgrow
          obtain ⟨ao', cap', rfl⟩ := slen_own hown2

          replace hown2 : w2.ownsRow w.heap.size 5 1 (.slice ao' (m + k + 1) cap') (m + k + 1) (((padL n).take (m + k + 1)).map (Value.int .u8)) := by
            rw [← take_next _ _ _ hg, List.map_append, List.map_take]; exact hown2
          clear hg
          go_wp2
          refine ⟨⟨k + 1, by omega, by go_num, hown2, hw⟩, ?_⟩
          simp [intOf]; omega
        · obtain rfl : k = 7 := by omega
          have hd : decide ((7 : Int) < 7) = false := by decide
          have hg := hget (m + 7) (by omega)
          rw [if_neg (by omega), if_pos (by omega), show plen n - 1 - (m + 7) = 8 by omega] at hg
          have hb8 := pbit_bd n 8
          have hown_ := hown.alloc (.cells #[.int .u8 (pbit n 8)] 5)
          go_wp2_with (at_builtin; refine wpList_append_own _ rfl (.tmp 26) (.tmp 30) 22 rfl w.heap.size 5 i0 (.int .u8 0) 1 1 Try.underlying22 hi hz0 hz1 hz2 rfl (by decide) (.slice ao2 (m + 7) cap2) (m + 7) _ rfl hown_ ⟨wr.heap.size, 0, none⟩ 1 1 [.int .u8 (pbit n 8)] rfl rfl (new_cell wr (pbit n 8)) (by simp [Value.oneCell']) (by unfold maxLen; omega) (by omega) (by rw [size_alloc1]; exact Nat.le_succ_of_le hw.size) ?_)
          intro v' w2 hown2 hgrow _
          replace hw := (hw.alloc hw.size _).grown hgrow (by rw [size_alloc1]; exact Nat.le_succ_of_le hw.size) (fun k h => (hown_.lt k h).1)
          clear hown hown_ hgrow
          obtain ⟨ao', cap', rfl⟩ := slen_own hown2

          replace hown2 : w2.ownsRow w.heap.size 5 1 (.slice ao' (m + 7 + 1) cap') (m + 7 + 1) (((padL n).take (m + 7 + 1)).map (Value.int .u8)) := by
            rw [← take_next _ _ _ hg, List.map_append, List.map_take]; exact hown2
          obtain ⟨q, hq⟩ : ∃ q, q = m + 7 + 1 := ⟨_, rfl⟩
          rw [← hq] at hown2 ⊢
          have hq2 : plen n = q + 8 := by omega
          have hq3 : 0 < q := by omega
          rw [hm.symm] at hget
          clear hg hhi hq hzr hd hm
          go_wp2
          go_loopw [3, 5] (fun v i wr => ∃ k : Nat, k ≤ 8 ∧ i = .int .i64 (k : Int) ∧ wr.ownsRow w.heap.size 5 1 v (q + k) (((padL n).take (q + k)).map (Value.int .u8)) ∧ Below w.heap.size w wr) (fun _ i _ => 8 - (intOf i).toNat)
          case atStart => exact ⟨0, by omega, rfl, hown2, hw⟩
          case round =>
            clear hown2 hw
            obtain ⟨k, hk, rfl, hown, hw⟩ := hrel
            obtain ⟨ao3, cap3, rfl⟩ := slen_own hown
            by_cases hlt : k < 8
            · have hd : decide ((k : Int) < 8) = true := by simp; omega
              have hb := hlo (7 - k) (by omega)
              rw [show 8 * (7 - k) = 56 - 8 * k by omega] at hb
              have hg := hget (q + k) (by omega)
              rw [if_neg (by omega), if_pos (by omega), show plen n - 1 - (q + k) = 7 - k by omega] at hg
              have hbb := pbit_bd n (7 - k)
              generalize pbit n (7 - k) = z at *
              clear hlo hget
              have hown_ := hown.alloc (.cells #[.int .u8 z] 5)
              go_wp2_with (at_builtin; refine wpList_append_own _ rfl (.tmp 36) (.tmp 44) 22 rfl w.heap.size 5 i0 (.int .u8 0) 1 1 Try.underlying22 hi hz0 hz1 hz2 rfl (by decide) (.slice ao3 (q + k) cap3) (q + k) _ rfl hown_ ⟨wr.heap.size, 0, none⟩ 1 1 [.int .u8 z] rfl rfl (new_cell wr z) (by simp [Value.oneCell']) (by unfold maxLen; omega) (by omega) (by rw [size_alloc1]; exact Nat.le_succ_of_le hw.size) ?_)
              intro v' w2 hown2 hgrow _
              replace hw := (hw.alloc hw.size _).grown hgrow (by rw [size_alloc1]; exact Nat.le_succ_of_le hw.size) (fun k h => (hown_.lt k h).1)
              clear hown hown_ hgrow
              obtain ⟨ao', cap', rfl⟩ := slen_own hown2

              replace hown2 : w2.ownsRow w.heap.size 5 1 (.slice ao' (q + k + 1) cap') (q + k + 1) (((padL n).take (q + k + 1)).map (Value.int .u8)) := by
                rw [← take_next _ _ _ hg, List.map_append, List.map_take]; exact hown2
              clear hg hb
              go_wp2
              refine ⟨⟨k + 1, by omega, by go_num, hown2, hw⟩, ?_⟩
              simp [intOf]; omega
            · obtain rfl : k = 8 := by omega
              have hd : decide ((8 : Int) < 8) = false := by decide
              have e8 : q + 8 = plen n := by omega
              have et : (padL n).take (q + 8) = padL n := List.take_of_length_le (by omega)
              rw [et] at hown
              clear hlo hget
              go_wp2
              go_ret
              exact ⟨_, rfl, by rw [← e8]; exact hown, hw⟩

end Go.Proofs.Ytelildhjkknaiaa.Wi


namespace Go.Proofs.Ytelildhjkknaiaa.Wi
open Go Go.RowKit Go.Sort
attribute [local go_sem] setCell_drewN alloc_drewN

/-- A slice that came in: its bytes, how many there may be, and no room behind nothing. -/
def BysN (W : World) (v : Value) (bs : List Int) : Prop := Bys W v bs ∧ bs.length ≤ 140737488351232 ∧ (∀ a l c, v = .slice a l c → a = none → c = 0)
theorem div_of {k n : Nat} (h : 128 * k ≤ n) (h2 : ¬ 128 * k + 128 ≤ n) : n / 128 = k := by omega
set_option maxRecDepth 100000 in
set_option maxHeartbeats 4000000 in
theorem r_fold (h bs : List Int) (hl : h.length = 8) (w : World) (v : Value) (hB : Bys w v bs) (hh : ∀ x ∈ h, 0 ≤ x ∧ x < 18446744073709551616) (hlim : bs.length ≤ 9223372036854775600) : Calls Try.prog 31 #[.agg (irow .u64 h), v] w fun e w' => e = .returned (.agg (irow .u64 (fol h bs (bs.length / 128)))) ∧ Below w.heap.size w w' := by
  have r0 := hp2_0 w (.cells (irow .u64 h) 31) (.cells (irow .u64 (zr 8)) 31)
  have r1 := hp2_1 w (.cells (irow .u64 h) 31) (.cells (irow .u64 (zr 8)) 31)
  have hw : Below w.heap.size w ((w.alloc (.cells (irow .u64 h) 31)).alloc (.cells (irow .u64 (zr 8)) 31)) := (((Below.refl _ _).alloc (Nat.le_refl _) _).alloc (by simp) _)

  obtain ⟨ao, cap, rfl, hl63, hc, hz⟩ := hB
  have hfl := fol_len hl bs
  have hfb := fol_bd hh bs
  generalize elen : bs.length = len at *
  go_enter Try.func31, Try.ntmps31
  go_wp2_with (first | (refine wpList_box rfl 31 _ rfl _ rfl (bw8 _) ?_) | (refine wpList_alloc rfl 31 rfl (irow .u64 (zr 8)) zw8 ?_) | fail)
  try simp only [size_alloc1, Act.put, List.setIfInBounds_toArray, List.set_cons_succ, List.set_cons_zero]
  generalize ((w.alloc (.cells (irow .u64 h) 31)).alloc (.cells (irow .u64 (zr 8)) 31)) = w0 at *
  go_loopw [5] (fun i wr => ∃ k : Nat, 128 * k ≤ len ∧ i = .int .i64 ((128 * k : Nat) : Int) ∧ wr.heap[w.heap.size]? = some (.cells (irow .u64 (fol h bs k)) 31 (0, 0)) ∧ wr.heap[w.heap.size + 1]? = some (.cells (irow .u64 (zr 8)) 31 (0, 0)) ∧ Below w.heap.size w wr) (fun i _ => len + 128 - (intOf i).toNat)
  case atStart => exact ⟨0, by omega, rfl, r0, r1, hw⟩
  case round =>
    clear r0 r1 hw
    obtain ⟨k, hk, rfl, r0, r1, hw⟩ := hrel
    have hq := hfl k
    by_cases hlt : 128 * k + 128 ≤ len
    · have hd : decide (((128 * k : Nat) : Int) + 128 ≤ (len : Int)) = true := by simp; omega
      have hcB := r_block (fol h bs k) (chunk bs k) hq (hfb k) (chunk_len bs k) (chunk_bd hz k)
      have hnext : fol h bs (k + 1) = blk (fol h bs k) (chunk bs k) := rfl
      have hch : prq (wat bs k) 128 = chunk bs k := rfl
      generalize ekk : 128 * k = kk at *
      go_wp2_with (first | (refine wpList_alloc rfl 32 rfl (irow .u8 (zr 128)) zp128 ?_) | fail)
      have rx := hp1_0 wr (.cells (irow .u8 (zr 128)) 32)
      have hb : Below wr.heap.size wr (wr.alloc (.cells (irow .u8 (zr 128)) 32)) := (Below.refl _ _).alloc (Nat.le_refl _) _
      have yx := lt_of_row r1
      have yw := hw.size
      replace r0 := keep hb r0
      replace r1 := keep hb r1
      replace hw := Below.after hw hb
      clear hb
      try simp only [size_alloc1, Act.put, List.setIfInBounds_toArray, List.set_cons_succ, List.set_cons_zero]
      generalize wr.alloc (.cells (irow .u8 (zr 128)) 32) = w1 at *
      generalize wr.heap.size = gX at *
      rw [← prq_zero (wat bs k)] at rx
      go_loopw [7] (fun i wr => ∃ j : Nat, j ≤ 128 ∧ i = .int .i64 j ∧ wr.heap[gX]? = some (.cells (irow .u8 (prq (wat bs k) j)) 32 (0, 0)) ∧ wr.heap[w.heap.size]? = some (.cells (irow .u64 (fol h bs k)) 31 (0, 0)) ∧ wr.heap[w.heap.size + 1]? = some (.cells (irow .u64 (zr 8)) 31 (0, 0)) ∧ Below w.heap.size w wr) (fun i _ => 128 - (intOf i).toNat)
      case atStart => exact ⟨0, by omega, rfl, rx, r0, r1, hw⟩
      case round =>
        clear r0 r1 rx hw hd
        obtain ⟨j, hj, rfl, rx, r0, r1, hw⟩ := hrel
        by_cases hlj : j < 128
        · have hdj : decide ((j : Int) < 128) = true := by simp; omega
          obtain ⟨bb, off, rfl, hb1, hb2⟩ := hc (kk + j) (by omega)
          replace hb2 := (hw.cell (p := ⟨bb, off + (kk + j), none⟩) hb1).trans hb2
          have hset := prq_set (wat bs k) j hlj
          have hpl := prq_len (wat bs k) j
          have e : wat bs k j = bs.getD (kk + j) 0 := by unfold wat; rw [ekk]
          rw [e] at hset
          generalize bs.getD (kk + j) 0 = z at *
          have cz := irow_cell rx (j := j) (by omega)
          have hf := row_frozen rx j
          clear hc e hch hnext hcB
          replace hset := hide hset
          go_wp2
          refine ⟨⟨j + 1, by omega, by go_num, by rw [← hset.out]; exact irow_set rx j _, heap_other r0 (by omega), heap_other r1 (by omega), hw.setCell (show w.heap.size ≤ gX by omega) _⟩, ?_⟩
          simp [intOf]; omega
        · obtain rfl : j = 128 := by omega
          have hdj : decide ((128 : Int) < 128) = false := by decide
          rw [hch] at rx
          have hcl := chunk_len bs k
          clear hc hch
          go_wp2_with (first | (refine wpList_load_want rfl 31 _ rfl (w.heap.size) rfl 31 (irow .u64 (fol h bs k)) (0, 0) _ r0 Try.underlying31 rfl (info23 _ hq) ?_) | (refine wpList_load_want rfl 32 _ rfl (gX) rfl 32 (irow .u8 (chunk bs k)) (0, 0) _ rx Try.underlying32 rfl (info24 _ hcl) ?_) | fail)
          refine (hcB.at _).mono ?_
          rintro e_ w5 ⟨rfl, hb⟩
          replace r0 := keep hb r0
          replace r1 := keep hb r1
          replace hw := Below.after hw hb
          clear hb hcB
          have hbl := blk_len (fol h bs k) (chunk bs k)
          rw [← hnext] at hbl ⊢
          go_wp2_with (first | (refine wpList_store_row rfl 31 _ _ rfl (w.heap.size) (irow .u64 (fol h bs (k + 1))) rfl rfl 31 _ r0 (info23 _ hbl) (fit8 _ _ hq hbl) (irow_one _ _) ?_) | fail)
          refine ⟨⟨k + 1, by omega, by congr 1; omega, setRow_heap w5 (w.heap.size) _ _ _ _ r0, (setRow_other w5 (w.heap.size) (w.heap.size + 1) _ (by omega)).trans r1, below_setRow hw (Nat.le_refl _) _⟩, ?_⟩
          simp [intOf]; omega
    · have hd : decide (((128 * k : Nat) : Int) + 128 ≤ (len : Int)) = false := by simp; omega
      have ek := div_of hk hlt
      rw [← ek] at r0 hq
      go_wp2_with (first | (refine wpList_load_want rfl 31 _ rfl (w.heap.size) rfl 31 (irow .u64 (fol h bs (len / 128))) (0, 0) _ r0 Try.underlying31 rfl (info23 _ hq) ?_) | (refine wpList_store_row rfl 31 _ _ rfl (w.heap.size + 1) (irow .u64 (fol h bs (len / 128))) rfl rfl 31 _ r1 (info23 _ hq) (fit8 _ _ (zr_len 8) hq) (irow_one _ _) ?_) | fail)
      replace r1 := setRow_heap wr (w.heap.size + 1) _ (irow .u64 (fol h bs (len / 128))) _ _ r1
      replace hw := below_setRow hw (show w.heap.size ≤ w.heap.size + 1 by omega) (irow .u64 (fol h bs (len / 128)))
      generalize wr.setRow (w.heap.size + 1) (irow .u64 (fol h bs (len / 128))) = w9 at *
      exact bodyPost_ret (v := .agg (irow .u64 (fol h bs (len / 128)))) (results_cell_row Try.results31 _ _ (w.heap.size + 1) _ _ _ _ rfl r1 Try.underlying31 rfl (info23 _ hq)) rfl ⟨rfl, hw⟩
set_option maxRecDepth 100000 in
set_option maxHeartbeats 4000000 in
theorem a_words (h bs : List Int) (hl : h.length = 8) (w : World) (v : Value) (hB : Bys w v bs) (hlim : bs.length ≤ 9223372036854775600) : Calls Try.prog 28 #[.agg (irow .u64 h), v] w fun e w' => e = .returned (.agg (irow .u64 (fol h bs (bs.length / 128)))) ∧ Below w.heap.size w w' := by
  have r0 := hp2_0 w (.cells (irow .u64 h) 31) (.cells (irow .u64 (zr 8)) 31)
  have r1 := hp2_1 w (.cells (irow .u64 h) 31) (.cells (irow .u64 (zr 8)) 31)
  have hw : Below w.heap.size w ((w.alloc (.cells (irow .u64 h) 31)).alloc (.cells (irow .u64 (zr 8)) 31)) := (((Below.refl _ _).alloc (Nat.le_refl _) _).alloc (by simp) _)

  obtain ⟨ao, cap, rfl, hl63, hc, hz⟩ := hB
  have hfl := fol_len hl bs

  generalize elen : bs.length = len at *
  go_enter Try.func28, Try.ntmps28
  go_wp2_with (first | (refine wpList_box rfl 31 _ rfl _ rfl (bw8 _) ?_) | (refine wpList_alloc rfl 31 rfl (irow .u64 (zr 8)) zw8 ?_) | fail)
  try simp only [size_alloc1, Act.put, List.setIfInBounds_toArray, List.set_cons_succ, List.set_cons_zero]
  generalize ((w.alloc (.cells (irow .u64 h) 31)).alloc (.cells (irow .u64 (zr 8)) 31)) = w0 at *
  go_loopw [5] (fun i wr => ∃ k : Nat, 128 * k ≤ len ∧ i = .int .i64 ((128 * k : Nat) : Int) ∧ wr.heap[w.heap.size]? = some (.cells (irow .u64 (fol h bs k)) 31 (0, 0)) ∧ wr.heap[w.heap.size + 1]? = some (.cells (irow .u64 (zr 8)) 31 (0, 0)) ∧ Below w.heap.size w wr) (fun i _ => len + 128 - (intOf i).toNat)
  case atStart => exact ⟨0, by omega, rfl, r0, r1, hw⟩
  case round =>
    clear r0 r1 hw
    obtain ⟨k, hk, rfl, r0, r1, hw⟩ := hrel
    have hq := hfl k
    by_cases hlt : 128 * k + 128 ≤ len
    · have hd : decide (((128 * k : Nat) : Int) + 128 ≤ (len : Int)) = true := by simp; omega
      have hcB := a_block (fol h bs k) (chunk bs k) hq  (chunk_len bs k) (chunk_bd hz k)
      have hnext : fol h bs (k + 1) = blk (fol h bs k) (chunk bs k) := rfl
      have hch : prq (wat bs k) 128 = chunk bs k := rfl
      generalize ekk : 128 * k = kk at *
      go_wp2_with (first | (refine wpList_alloc rfl 32 rfl (irow .u8 (zr 128)) zp128 ?_) | fail)
      have rx := hp1_0 wr (.cells (irow .u8 (zr 128)) 32)
      have hb : Below wr.heap.size wr (wr.alloc (.cells (irow .u8 (zr 128)) 32)) := (Below.refl _ _).alloc (Nat.le_refl _) _
      have yx := lt_of_row r1
      have yw := hw.size
      replace r0 := keep hb r0
      replace r1 := keep hb r1
      replace hw := Below.after hw hb
      clear hb
      try simp only [size_alloc1, Act.put, List.setIfInBounds_toArray, List.set_cons_succ, List.set_cons_zero]
      generalize wr.alloc (.cells (irow .u8 (zr 128)) 32) = w1 at *
      generalize wr.heap.size = gX at *
      rw [← prq_zero (wat bs k)] at rx
      go_loopw [7] (fun i wr => ∃ j : Nat, j ≤ 128 ∧ i = .int .i64 j ∧ wr.heap[gX]? = some (.cells (irow .u8 (prq (wat bs k) j)) 32 (0, 0)) ∧ wr.heap[w.heap.size]? = some (.cells (irow .u64 (fol h bs k)) 31 (0, 0)) ∧ wr.heap[w.heap.size + 1]? = some (.cells (irow .u64 (zr 8)) 31 (0, 0)) ∧ Below w.heap.size w wr) (fun i _ => 128 - (intOf i).toNat)
      case atStart => exact ⟨0, by omega, rfl, rx, r0, r1, hw⟩
      case round =>
        clear r0 r1 rx hw hd
        obtain ⟨j, hj, rfl, rx, r0, r1, hw⟩ := hrel
        by_cases hlj : j < 128
        · have hdj : decide ((j : Int) < 128) = true := by simp; omega
          obtain ⟨bb, off, rfl, hb1, hb2⟩ := hc (kk + j) (by omega)
          replace hb2 := (hw.cell (p := ⟨bb, off + (kk + j), none⟩) hb1).trans hb2
          have hset := prq_set (wat bs k) j hlj
          have hpl := prq_len (wat bs k) j
          have e : wat bs k j = bs.getD (kk + j) 0 := by unfold wat; rw [ekk]
          rw [e] at hset
          generalize bs.getD (kk + j) 0 = z at *
          have cz := irow_cell rx (j := j) (by omega)
          have hf := row_frozen rx j
          clear hc e hch hnext hcB
          replace hset := hide hset
          go_wp2
          refine ⟨⟨j + 1, by omega, by go_num, by rw [← hset.out]; exact irow_set rx j _, heap_other r0 (by omega), heap_other r1 (by omega), hw.setCell (show w.heap.size ≤ gX by omega) _⟩, ?_⟩
          simp [intOf]; omega
        · obtain rfl : j = 128 := by omega
          have hdj : decide ((128 : Int) < 128) = false := by decide
          rw [hch] at rx
          have hcl := chunk_len bs k
          clear hc hch
          go_wp2_with (first | (refine wpList_load_want rfl 31 _ rfl (w.heap.size) rfl 31 (irow .u64 (fol h bs k)) (0, 0) _ r0 Try.underlying31 rfl (info23 _ hq) ?_) | (refine wpList_load_want rfl 32 _ rfl (gX) rfl 32 (irow .u8 (chunk bs k)) (0, 0) _ rx Try.underlying32 rfl (info24 _ hcl) ?_) | fail)
          refine (hcB.at _).mono ?_
          rintro e_ w5 ⟨rfl, hb⟩
          replace r0 := keep hb r0
          replace r1 := keep hb r1
          replace hw := Below.after hw hb
          clear hb hcB
          have hbl := blk_len (fol h bs k) (chunk bs k)
          rw [← hnext] at hbl ⊢
          go_wp2_with (first | (refine wpList_store_row rfl 31 _ _ rfl (w.heap.size) (irow .u64 (fol h bs (k + 1))) rfl rfl 31 _ r0 (info23 _ hbl) (fit8 _ _ hq hbl) (irow_one _ _) ?_) | fail)
          refine ⟨⟨k + 1, by omega, by congr 1; omega, setRow_heap w5 (w.heap.size) _ _ _ _ r0, (setRow_other w5 (w.heap.size) (w.heap.size + 1) _ (by omega)).trans r1, below_setRow hw (Nat.le_refl _) _⟩, ?_⟩
          simp [intOf]; omega
    · have hd : decide (((128 * k : Nat) : Int) + 128 ≤ (len : Int)) = false := by simp; omega
      have ek := div_of hk hlt
      rw [← ek] at r0 hq
      go_wp2_with (first | (refine wpList_load_want rfl 31 _ rfl (w.heap.size) rfl 31 (irow .u64 (fol h bs (len / 128))) (0, 0) _ r0 Try.underlying31 rfl (info23 _ hq) ?_) | (refine wpList_store_row rfl 31 _ _ rfl (w.heap.size + 1) (irow .u64 (fol h bs (len / 128))) rfl rfl 31 _ r1 (info23 _ hq) (fit8 _ _ (zr_len 8) hq) (irow_one _ _) ?_) | fail)
      replace r1 := setRow_heap wr (w.heap.size + 1) _ (irow .u64 (fol h bs (len / 128))) _ _ r1
      replace hw := below_setRow hw (show w.heap.size ≤ w.heap.size + 1 by omega) (irow .u64 (fol h bs (len / 128)))
      generalize wr.setRow (w.heap.size + 1) (irow .u64 (fol h bs (len / 128))) = w9 at *
      exact bodyPost_ret (v := .agg (irow .u64 (fol h bs (len / 128)))) (results_cell_row Try.results28 _ _ (w.heap.size + 1) _ _ _ _ rfl r1 Try.underlying31 rfl (info23 _ hq)) rfl ⟨rfl, hw⟩

end Go.Proofs.Ytelildhjkknaiaa.Wi


namespace Go.Proofs.Ytelildhjkknaiaa.Wi
open Go Go.RowKit Go.Sort
attribute [local go_sem] setCell_drewN alloc_drewN

/-- An append to a row of one's own, whatever the shape of what is appended. -/
theorem wpList_append_own_any {P : Program} (w : World) {ops : Array Oper} {rest : List Oper} {o : Oper} {a : Act} {Q : Exit → Act → World → Prop} (hgd : o.guard = none) (s x : Operand) (t : TypeId)
    (ho : o.op = .call { callee := .builtin .append, args := #[s, x], argTypes := #[t, t] })
    (base : Nat) (e : TypeId) (i : TypeInfo) (z : Value) (ht : P.underlying t = some (.slice e)) (hi : P.info? e = some i) (hz : i.zero = some z)
    (hsize : i.size = 1) (hby : i.bytes = 1) (hzs : z.cells.size = 1)
    (v : Value) (n : Nat) (xs : List Value) (hs : a.eval s = v) (hown : w.ownsRow base e 1 v n xs)
    (ao : Option Addr) (m c : Nat) (news : List Value) (hx : a.eval x = .slice ao m c) (hl : news.length = m * 1) (hnone : ao = none → m = 0 ∧ c = 0) (hnews : ∀ ad, ao = some ad → ∀ j u, news[j]? = some u → w.cell? (ad.add j) = some u) (h1 : ∀ u ∈ news, u.oneCell' = true)
    (h63 : n + m ≤ maxLen) (hbytes : (n + m) * 1 ≤ 140737488355328) (hbase : base ≤ w.heap.size)
    (h : ∀ v' w', w'.ownsRow base e 1 v' (n + m) (xs ++ news) → w.grownBy w' v.ownBlock → wpList P ops Q rest (a.put o.dst v') w') : wpList P ops Q (o :: rest) a w := by
  cases ao with
  | some ad => exact wpList_append_own w hgd s x t ho base e i z 1 1 ht hi hz hsize hby hzs (by decide) v n xs hs hown ad m c news hx hl (hnews ad rfl) h1 h63 hbytes hbase (fun v' w' h2 h3 _ => h v' w' h2 h3)
  | none =>
    obtain ⟨rfl, rfl⟩ := hnone rfl
    have hn0 : news = [] := List.eq_nil_of_length_eq_zero (by simpa using hl)
    subst hn0
    refine wpList_plain hgd fun K hK' => ?_
    have hrun := run_append_owned_none (P := P) w base t o.type e i 1 ht hi _ n xs hown
    unfold Oper.wp
    simp [execOp, ho, resolve, invoke, builtin, hs, hx, hrun, Result.andThen]
    exact hK' _ _ (by simpa using h v w (by simpa using hown) (World.grownBy.refl _ _))
/-- The hash of bytes. -/
def sumW (bs : List Int) : List Int := fol sl (bs ++ padL bs.length) ((bs ++ padL bs.length).length / 128)
def sumL (bs : List Int) : List Int := byts (sumW bs)
theorem sumW_len (bs : List Int) : (sumW bs).length = 8 := fol_len rfl _ _
theorem sumW_bd (bs : List Int) : ∀ x ∈ sumW bs, 0 ≤ x ∧ x < 18446744073709551616 := fol_bd sl_bd _ _
theorem sumL_len (bs : List Int) : (sumL bs).length = 64 := byts_len _
theorem padL_len (n : Nat) : (padL n).length = plen n := padP_len n 8
theorem bys_none {W : World} {ao : Option Addr} {cap : Nat} {bs : List Int} (hB : Bys W (.slice ao bs.length cap) bs) (hn : ∀ a l c, Value.slice ao bs.length cap = .slice a l c → a = none → c = 0) : ao = none → bs.length = 0 ∧ cap = 0 := by
  intro h
  refine ⟨?_, hn _ _ _ rfl h⟩
  obtain ⟨ao', cap', e, _, hc, _⟩ := hB
  cases e
  rcases Nat.eq_zero_or_pos bs.length with e | e
  · exact e
  · obtain ⟨b, off, e', _⟩ := hc 0 e
    rw [h] at e'; cases e'
theorem bys_cells {W : World} {ao : Option Addr} {cap : Nat} {bs : List Int} (hB : Bys W (.slice ao bs.length cap) bs) : ∀ ad, ao = some ad → ∀ j u, (bs.map (Value.int .u8))[j]? = some u → W.cell? (ad.add j) = some u := by
  obtain ⟨ao', cap', e, _, hc, _⟩ := hB
  cases e
  intro ad had j u hu
  have hj : j < bs.length := by have := (List.getElem?_eq_some_iff.1 hu).1; simpa using this
  obtain ⟨b, off, e', hb, hcl⟩ := hc j hj
  obtain rfl : ad = ⟨b, off, none⟩ := Option.some.inj (had.symm.trans e')
  have : u = .int .u8 (bs.getD j 0) := by
    simp only [List.getElem?_map, List.getElem?_eq_getElem hj, Option.map_some, Option.some.injEq] at hu
    rw [← hu, List.getD_eq_getElem?_getD, List.getElem?_eq_getElem hj]; rfl
  rw [this, addr_add]
  exact hcl
theorem Bys.of_own {W : World} {b n : Nat} {v : Value} {l : List Int} (h : W.ownsRow b 5 1 v n (l.map (Value.int .u8))) (hl : l.length ≤ 9223372036854775807) (hz : ∀ z ∈ l, 0 ≤ z ∧ z < 256) : Bys W v l := by
  obtain ⟨h1, ⟨rfl, rfl⟩ | ⟨g, cap, cur, rfl, hb, hg, hn, hm, hs, ht⟩⟩ := h
  · have : l = [] := List.eq_nil_of_length_eq_zero (by simpa using h1)
    subst this
    exact ⟨none, 0, rfl, by decide, fun j hj => by simp at hj, by simp⟩
  · have hln : l.length = n := by simpa using h1
    refine ⟨_, cap, by rw [hln], hl, fun j hj => ⟨g, 0, rfl, lt_of_row hg, ?_⟩, hz⟩
    rw [Nat.zero_add, cell_of_row _ _ _ _ _ _ hg]
    have h2 := congrArg (fun q => q[j]?) ht
    simp only [Nat.mul_one] at h2
    rw [List.getElem?_take_of_lt (by omega), List.getElem?_map, List.getElem?_eq_getElem hj] at h2
    rw [← Array.getElem?_toList, h2, List.getD_eq_getElem?_getD, List.getElem?_eq_getElem hj]
    rfl
theorem own_keep {W W' : World} {b n : Nat} {T : TypeId} {v : Value} {xs : List Value} (h : W.ownsRow b T 1 v n xs) (hb : Below W.heap.size W W') : W'.ownsRow b T 1 v n xs := by
  obtain ⟨h1, h2 | ⟨g, cap, cur, rfl, hb2, hg, h3⟩⟩ := h
  · exact ⟨h1, .inl h2⟩
  · exact ⟨h1, .inr ⟨g, cap, cur, rfl, hb2, keep hb hg, h3⟩⟩
theorem both_bd {a b : List Int} (ha : ∀ z ∈ a, 0 ≤ z ∧ z < 256) (hb : ∀ z ∈ b, 0 ≤ z ∧ z < 256) : ∀ z ∈ a ++ b, 0 ≤ z ∧ z < 256 := fun z hz => (List.mem_append.1 hz).elim (ha z) (hb z)
/-- An empty list of one's own: a block of no cells. -/
theorem own_empty (w : World) : (w.alloc (.cells #[] 5)).ownsRow w.heap.size 5 1 (.slice (some ⟨w.heap.size, 0, none⟩) 0 0) 0 [] :=
  ⟨rfl, .inr ⟨w.heap.size, 0, #[], rfl, Nat.le_refl _, hp1_0 w _, Nat.le_refl _, by decide, rfl, rfl⟩⟩
set_option maxRecDepth 100000 in
set_option maxHeartbeats 4000000 in
theorem r_sum (bs : List Int) (w : World) (v : Value) (hN : BysN w v bs) : Calls Try.prog 13 #[v] w fun e w' => e = .returned (.agg (irow .u8 (sumL bs))) ∧ Below w.heap.size w w' := by
  obtain ⟨hB, hlim, hnil⟩ := hN
  have r0 := hp1_0 w (.cells (irow .u8 (zr 64)) 26)
  have hw : Below w.heap.size w (w.alloc (.cells (irow .u8 (zr 64)) 26)) := ((Below.refl _ _).alloc (Nat.le_refl _) _)

  replace hB := hB.keep hw
  have hz := hB
  obtain ⟨ao, cap, rfl, _, _, hz⟩ := hz
  have hnone := bys_none hB hnil
  obtain ⟨i0, hi, hz0, hz1, hz2⟩ := info8
  have hpb := plen_bd bs.length
  have hpl := padL_len bs.length
  have cP := r_pad bs.length (by omega)
  clear hnil
  go_enter Try.func13, Try.ntmps13
  go_wp2_with (first | (refine wpList_alloc rfl 26 rfl (irow .u8 (zr 64)) zwide ?_) | fail)
  try simp only [size_alloc1, Act.put, List.setIfInBounds_toArray, List.set_cons_succ, List.set_cons_zero]
  generalize (w.alloc (.cells (irow .u8 (zr 64)) 26)) = w00 at *
  refine (r_start.at _).mono ?_
  rintro e_ w0 ⟨rfl, hb⟩
  replace r0 := keep hb r0
  replace hB := hB.keep hb
  replace hw := Below.after hw hb
  clear hb
  have lr0 := lt_of_row r0
  have hown := own_empty w0
  have hb : Below w0.heap.size w0 (w0.alloc (.cells #[] 5)) := (Below.refl _ _).alloc (Nat.le_refl _) _
  replace hB := hB.keep hb
  have hcell := bys_cells hB
  clear hb
  go_wp2_with (at_builtin; refine wpList_append_own_any _ rfl (.tmp 4) (.tmp 5) 22 rfl w0.heap.size 5 i0 (.int .u8 0) Try.underlying22 hi hz0 hz1 hz2 rfl _ 0 [] rfl hown ao bs.length cap (bs.map (Value.int .u8)) rfl (by simp) hnone hcell (ints_one .u8 bs) (by unfold maxLen; omega) (by omega) (by rw [size_alloc1]; exact Nat.le_succ _) ?_)
  intro v1 w1 hown1 hgr
  have hg0 := (Below.refl w0.heap.size w0).alloc (Nat.le_refl _) (.cells #[] 5)
  have hbel : Below w0.heap.size w0 w1 := hg0.grown hgr hg0.size (fun k h => (hown.lt k h).1)
  replace r0 := keep hbel r0
  replace hw := Below.after hw hbel
  have hs01 := hbel.size
  clear hbel hgr hcell hown hB hnone hg0
  obtain ⟨ao1, cap1, rfl⟩ := slen_own hown1
  go_wp2_with (fail)
  refine (cP w1).mono ?_
  rintro e_ w3 ⟨vp, rfl, hp, hb⟩
  replace r0 := keep hb r0
  replace hown1 := own_keep hown1 hb
  have hs3 := hb.size
  replace hw := Below.after hw hb
  clear hb cP
  obtain ⟨_, ⟨_, h0⟩ | ⟨gp, capp, curp, rfl, hgp, _⟩⟩ := id hp
  · omega
  have hcell := hp.cells (g := gp) rfl
  have hn1 : (some (⟨gp, 0, none⟩ : Addr)) = none → plen bs.length = 0 ∧ capp = 0 := by intro h; cases h
  have hn2 : ∀ ad, some (⟨gp, 0, none⟩ : Addr) = some ad → ∀ j u, ((padL bs.length).map (Value.int .u8))[j]? = some u → w3.cell? (ad.add j) = some u := fun ad had => by cases had; exact hcell
  go_wp2_with (at_builtin; refine wpList_append_own_any _ rfl (.tmp 6) (.tmp 10) 22 rfl w0.heap.size 5 i0 (.int .u8 0) Try.underlying22 hi hz0 hz1 hz2 rfl _ bs.length _ rfl hown1 (some ⟨gp, 0, none⟩) (plen bs.length) capp ((padL bs.length).map (Value.int .u8)) rfl (by simp [hpl]) hn1 hn2 (ints_one .u8 _) (by unfold maxLen; omega) (by omega) (by omega) ?_)
  intro v4 w4 hown4 hgr
  have lr1 := lt_of_row r0
  replace r0 : w4.heap[w.heap.size]? = _ := (hgr.block _ lr1 (by intro e; have := (hown1.lt _ e.symm).1; omega)).trans r0
  replace hw := hw.grown hgr hw.size (fun k h => by have := (hown1.lt k h).1; omega)
  clear hgr hcell hn1 hn2 hown1 hp lr0 lr1
  have hwl : (bs ++ padL bs.length).length = bs.length + plen bs.length := by rw [List.length_append, hpl]
  have hbz := both_bd hz (padL_bd bs.length)
  rw [← List.map_append] at hown4
  have hBw := Bys.of_own hown4 (by omega) hbz
  clear hown4
  have hfin : sumL bs = byts (fol sl (bs ++ padL bs.length) ((bs ++ padL bs.length).length / 128)) := rfl
  have hFl : (fol sl (bs ++ padL bs.length) ((bs ++ padL bs.length).length / 128)).length = 8 := fol_len rfl _ _
  have cB := r_bytes _ hFl (fol_bd sl_bd (bs ++ padL bs.length) _)
  rw [← hfin] at cB
  have cF := fun (W : World) (x : Value) (h : Bys W x (bs ++ padL bs.length)) => r_fold sl (bs ++ padL bs.length) rfl W x h sl_bd (by omega)
  generalize fol sl (bs ++ padL bs.length) ((bs ++ padL bs.length).length / 128) = FW at *
  clear hfin
  have hSl := sumL_len bs
  clear hpl hwl hbz hpb hFl
  go_wp2_with (fail)
  refine (cF w4 _ hBw).mono ?_
  rintro e_ w6 ⟨rfl, hb⟩
  replace r0 := keep hb r0
  replace hw := Below.after hw hb
  clear hb hBw
  go_wp2_with (fail)
  refine (cB.at _).mono ?_
  rintro e_ w7 ⟨rfl, hb⟩
  replace r0 := keep hb r0
  replace hw := Below.after hw hb
  clear hb
  go_wp2_with (first | (refine wpList_store_row rfl 26 _ _ rfl (w.heap.size) (irow .u8 (sumL bs)) rfl rfl 26 _ r0 (infok8 _ hSl) (fit64 _ _ (zr_len 64) hSl) (irow_one _ _) ?_) | fail)
  replace r0 := setRow_heap w7 (w.heap.size) _ (irow .u8 (sumL bs)) _ _ r0
  replace hw := below_setRow hw (Nat.le_refl _) (irow .u8 (sumL bs))
  generalize w7.setRow (w.heap.size) (irow .u8 (sumL bs)) = w9 at *
  exact bodyPost_ret (v := .agg (irow .u8 (sumL bs))) (results_cell_row Try.results13 _ _ (w.heap.size) _ _ _ _ rfl r0 Try.underlying26 rfl (infok8 _ hSl)) rfl ⟨rfl, hw⟩

end Go.Proofs.Ytelildhjkknaiaa.Wi


namespace Go.Proofs.Ytelildhjkknaiaa.Wi
open Go Go.RowKit Go.Sort
attribute [local go_sem] setCell_drewN alloc_drewN

/-- An append whose row is either the old one or a new block. -/
theorem wpList_append_two {P : Program} (w : World) {ops : Array Oper} {rest : List Oper} {o : Oper} {a : Act} {Q : Exit → Act → World → Prop} (hgd : o.guard = none) (s x : Operand) (t : TypeId)
    (ho : o.op = .call { callee := .builtin .append, args := #[s, x], argTypes := #[t, t] })
    (base : Nat) (e : TypeId) (i : TypeInfo) (z : Value) (ht : P.underlying t = some (.slice e)) (hi : P.info? e = some i) (hz : i.zero = some z)
    (hsize : i.size = 1) (hby : i.bytes = 1) (hzs : z.cells.size = 1)
    (g n cap : Nat) (xs : List Value) (hs : a.eval s = .slice (some ⟨g, 0, none⟩) n cap) (hown : w.ownsRow base e 1 (.slice (some ⟨g, 0, none⟩) n cap) n xs)
    (ad : Addr) (m c : Nat) (news : List Value) (hx : a.eval x = .slice (some ad) m c) (hl : news.length = m * 1) (hnews : ∀ j u, news[j]? = some u → w.cell? (ad.add j) = some u) (h1 : ∀ u ∈ news, u.oneCell' = true)
    (h63 : n + m ≤ maxLen) (hbytes : (n + m) * 1 ≤ 140737488355328) (hbase : base ≤ w.heap.size)
    (h : ∀ g' cap' w', w'.ownsRow base e 1 (.slice (some ⟨g', 0, none⟩) (n + m) cap') (n + m) (xs ++ news) → w.grownBy w' (some g) → (g' = g ∨ g' = w.heap.size) → wpList P ops Q rest (a.put o.dst (.slice (some ⟨g', 0, none⟩) (n + m) cap')) w') : wpList P ops Q (o :: rest) a w := by
  refine wpList_plain hgd fun K hK => ?_
  obtain ⟨v', w', hr, h2, h3, _⟩ := run_append_own (P := P) w base t o.type e i z 1 1 ht hi hz hsize hby hzs (by decide) _ n xs hown ad m c news hl hnews h1 h63 hbytes hbase
  have key : ∃ g' cap', v' = .slice (some ⟨g', 0, none⟩) (n + m) cap' ∧ (g' = g ∨ g' = w.heap.size) := by
    rcases hown.2 with ⟨hv, _⟩ | ⟨g1, cap1, cur, hv, hbg, hg, hnc, hcm, hcs, htake⟩
    · cases hv
    · cases hv
      by_cases hroom : n + m ≤ cap
      · have hr2 := run_append_room (P := P) w t o.type e i ht hi g n cap cur hg ad m c news (by rw [hsize]; exact hl) hnews h1 hroom (by rw [hsize, hl, hcs]; omega)
        have := hr.symm.trans hr2
        injection this with e1 e2
        exact ⟨g, cap, e1, .inl rfl⟩
      · have holds : ∀ j u, xs[j]? = some u → w.cell? ((⟨g, 0, none⟩ : Addr).add j) = some u := hown.cells (g := g) rfl
        have hr2 := run_append_grow (P := P) w t o.type e i z ht hi hz ⟨g, 0, none⟩ n cap xs (by rw [hsize]; exact hown.1) holds ad m c news (by rw [hsize]; exact hl) hnews (by omega) (by simp only [maxLen] at h63; omega) (growslice_fits (by omega) (by rw [hby]; exact hbytes))
        have := hr.symm.trans hr2
        injection this with e1 e2
        exact ⟨_, _, e1, .inr rfl⟩
  obtain ⟨g', cap', rfl, hgg⟩ := key
  unfold Oper.wp execOp
  simp only [ho, resolve, invoke, builtin, Sem.run_bind, Sem.run_pure, Result.andThen_ok, List.map_toArray, List.map_cons, List.map_nil, hs, hx, hr]
  exact hK _ _ (h g' cap' w' h2 h3 hgg)
set_option maxHeartbeats 2000000 in
/-- Two slices that say the same. -/
theorem same_any (bs : List Int) (w : World) (u v : Value) (hu : Bys w u bs) (hv : Bys w v bs) : Calls Try.prog 19 #[u, v] w fun e w' => e = .returned (.bool true) ∧ Below w.heap.size w w' := by
  obtain ⟨ao, cap, rfl, hl, hc, hz⟩ := hu
  obtain ⟨ao', cap', rfl, _, hc', _⟩ := hv
  generalize hlen : bs.length = len at *
  go_enter Try.func19, Try.ntmps19
  go_wp2
  go_loopw [5] (fun i wr => ∃ k : Nat, k ≤ len ∧ i = .int .i64 k ∧ Below w.heap.size w wr) (fun i _ => len - (intOf i).toNat)
  case atStart => exact ⟨0, by omega, rfl, Below.refl _ _⟩
  case round =>
    obtain ⟨k, hk, rfl, hw⟩ := hrel
    by_cases hlt : k < len
    · have hd : decide ((k : Int) < (len : Int)) = true := by simp; omega
      obtain ⟨b, off, rfl, hb1, hb2⟩ := hc k hlt
      obtain ⟨b', off', rfl, hb1', hb2'⟩ := hc' k hlt
      replace hb2 := (hw.cell (p := ⟨b, off + k, none⟩) hb1).trans hb2
      replace hb2' := (hw.cell (p := ⟨b', off' + k, none⟩) hb1').trans hb2'
      generalize bs.getD k 0 = z at *
      clear hc hc'
      go_wp2
      have k1 : ∀ p : Regrown, (grow (redrawn wr p.d) p.os).cell? ⟨b, off + k, none⟩ = some (.int .u8 z) := fun p => cell_regrown (hb2) p.d p.os
      have k2 : ∀ p : Regrown, (grow (redrawn wr p.d) p.os).cell? ⟨b', off' + k, none⟩ = some (.int .u8 z) := fun p => cell_regrown (hb2') p.d p.os
      refine wp_region_quiet_below (by kernel_rfl) (by kernel_rfl) ?_
      go_big_quiet_step (fail)
      go_big_quiet_step (fail)
      go_big_quiet_step (fail)
      go_big_quiet_step (fail)
      go_big_quiet_step (fail)
      go_big_quiet_step (fail)
      go_big_quiet_step (fail)
      go_big_quiet_step (fail)
      go_big_quiet_step (fail)
      refine wpQuiet_nil ?_
      rintro _ ⟨p, rfl⟩
      have hb := below_regrown wr p.d p.os
      generalize grow (redrawn wr p.d) p.os = w1 at *
      clear k1 k2
      replace hw := Below.after hw hb
      clear hb

      go_wp2
      refine ⟨⟨k + 1, by omega, by go_num, hw⟩, ?_⟩
      simp [intOf]; omega
    · obtain rfl : k = len := by omega
      have hd : decide ((k : Int) < (k : Int)) = false := by simp
      go_wp2
      go_ret
      exact ⟨rfl, hw⟩
theorem grown_trans {a b c : World} {row : Option Nat} {g : Nat} (h : a.grownBy b (some g)) (h2 : b.grownBy c row) (hr : row = none ∨ row = some g ∨ ∃ k, row = some k ∧ a.heap.size ≤ k) : a.grownBy c (some g) := by
  refine ⟨h2.os.trans h.os, h2.tape.trans h.tape, h2.output.trans h.output, Nat.le_trans h.size h2.size, fun k hk hn => ?_⟩
  have h3 := h.size
  refine (h2.block k (by omega) ?_).trans (h.block k hk hn)
  rcases hr with rfl | rfl | ⟨q, rfl, hq⟩
  · simp
  · exact hn
  · intro e; injection e with e; omega
theorem grown_setCell {a b : World} {g j : Nat} {v : Value} (h : a.grownBy b (some g)) : a.grownBy (b.setCell ⟨g, j, none⟩ v) (some g) := by
  refine ⟨h.os, h.tape, h.output, ?_, fun k hk hn => ?_⟩
  · have e : (b.setCell ⟨g, j, none⟩ v).heap.size = b.heap.size := by simp [World.setCell]
    rw [e]; exact h.size
  · rw [heap_setCell_other b ⟨g, j, none⟩ k v (fun e => hn (by rw [e]))]
    exact h.block k hk hn
set_option maxHeartbeats 2000000 in
/-- All of a list and what lies behind it written over: no other block turns. -/
theorem full_any (g n cap : Nat) (x : Int) (cur : Array Value) (w : World) (hg : w.heap[g]? = some (.cells cur 5 (0, 0))) (hcs : cur.size = cap) (hn : n ≤ cap) (hm : cap ≤ maxLen) (hb : n + 90 ≤ 140737488355328) :
    Calls Try.prog 20 #[.slice (some ⟨g, 0, none⟩) n cap, .int .u8 x] w fun e w' => e = .returned (.tuple #[]) ∧ w.grownBy w' (some g) := by
  obtain ⟨i0, hi, hz0, hz1, hz2⟩ := info8
  have hgl := lt_of_row hg
  go_enter Try.func20, Try.ntmps20
  go_wp2
  go_loopw [4] (fun i wr => ∃ k : Nat, k ≤ n ∧ i = .int .i64 k ∧ (∃ cur' : Array Value, cur'.size = cap ∧ wr.heap[g]? = some (.cells cur' 5 (0, 0))) ∧ w.grownBy wr (some g)) (fun i _ => n - (intOf i).toNat)
  case atStart => exact ⟨0, by omega, rfl, ⟨cur, hcs, hg⟩, World.grownBy.refl _ _⟩
  case round =>
    obtain ⟨k, hk, rfl, ⟨cur', hcs', hg'⟩, hw⟩ := hrel
    by_cases hlt : k < n
    · have hd : decide ((k : Int) < (n : Int)) = true := by simp; omega
      have hc : wr.cell? ⟨g, k, none⟩ = some (cur'[k]'(by omega)) := by rw [cell_of_row _ _ _ _ _ _ hg', Array.getElem?_eq_getElem (by omega)]
      have hf := row_frozen hg' k
      have hq := heap_setCell_same wr g k cur' _ (.int .u8 x) hg'
      go_wp2
      refine ⟨⟨k + 1, by omega, by go_num, ⟨_, by rw [Array.size_setIfInBounds]; exact hcs', hq⟩, grown_setCell hw⟩, ?_⟩
      simp [intOf]; omega
    · obtain rfl : k = n := by omega
      have hd : decide ((k : Int) < (k : Int)) = false := by simp
      go_wp2
      go_loopw [0, 5] (fun v i wr => ∃ (j g' c' : Nat) (xs : List Value), j ≤ 90 ∧ i = .int .i64 j ∧ v = .slice (some ⟨g', 0, none⟩) (k + j) c' ∧ wr.ownsRow 0 5 1 (.slice (some ⟨g', 0, none⟩) (k + j) c') (k + j) xs ∧ (g' = g ∨ w.heap.size ≤ g') ∧ w.grownBy wr (some g)) (fun _ i _ => 90 - (intOf i).toNat)
      case atStart =>
        refine ⟨0, g, cap, cur'.toList.take k, by omega, rfl, rfl, ⟨by simp; omega, .inr ⟨g, cap, cur', rfl, Nat.zero_le _, hg', hn, hm, by omega, by simp⟩⟩, .inl rfl, hw⟩
      case round =>
        clear hg' hw hd
        obtain ⟨j, g', c', xs, hj, rfl, rfl, hown, hgg, hw⟩ := hrel
        by_cases hlt2 : j < 90
        · have hd : decide ((j : Int) < 90) = true := by simp; omega
          have hown_ := hown.alloc (.cells #[.int .u8 x] 5)
          go_wp2_with (at_builtin; refine wpList_append_two _ rfl (.tmp 20) (.tmp 22) 22 rfl 0 5 i0 (.int .u8 0) Try.underlying22 hi hz0 hz1 hz2 rfl g' (k + j) c' xs rfl hown_ ⟨wr.heap.size, 0, none⟩ 1 1 [.int .u8 x] rfl rfl (new_cell wr x) (by simp [Value.oneCell']) (by unfold maxLen; omega) (by omega) (Nat.zero_le _) ?_)
          intro g2 c2 w2 hown2 hgrow hg2
          have hws := hw.size
          have hga : w.grownBy (wr.alloc (.cells #[.int .u8 x] 5)) (some g) := grown_trans hw (World.grownBy_alloc wr _ none) (.inl rfl)
          have hgb : w.grownBy w2 (some g) := grown_trans hga hgrow (by rcases hgg with rfl | h; exact .inr (.inl rfl); exact .inr (.inr ⟨_, rfl, h⟩))
          have hg3 : g2 = g ∨ w.heap.size ≤ g2 := by
            rcases hg2 with rfl | rfl
            · exact hgg
            · exact .inr (by omega)
          clear hown hown_ hgrow hga hw hg2
          go_wp2
          refine ⟨⟨j + 1, g2, c2, _, by omega, by go_num, rfl, hown2, hg3, hgb⟩, ?_⟩
          simp [intOf]; omega
        · obtain rfl : j = 90 := by omega
          have hd : decide ((90 : Int) < 90) = false := by decide
          go_wp2
          go_end0
          exact ⟨rfl, hw⟩

end Go.Proofs.Ytelildhjkknaiaa.Wi


namespace Go.Proofs.Ytelildhjkknaiaa.Wi
open Go Go.RowKit Go.Sort
attribute [local go_sem] setCell_drewN alloc_drewN

theorem cell_of {W : World} {g : Nat} {cs : Array Value} {t : TypeId} (hg : W.heap[g]? = some (.cells cs t (0, 0))) {j : Nat} {v : Value} (h : cs[j]? = some v) : W.cell? ⟨g, j, none⟩ = some v := by
  rw [cell_of_row _ _ _ _ _ _ hg]; exact h
theorem blk_lt {w : World} {b o : Nat} {v : Value} (h : w.cell? ⟨b, o, none⟩ = some v) : b < w.heap.size := by
  rcases Nat.lt_or_ge b w.heap.size with q | q
  · exact q
  · simp [World.cell?, Array.getElem?_eq_none q] at h
theorem grown_below {a b c : World} {g : Nat} (h : a.grownBy b (some g)) (hb : Below b.heap.size b c) : a.grownBy c (some g) :=
  ⟨hb.os.trans h.os, hb.tape.trans h.tape, hb.output.trans h.output, Nat.le_trans h.size hb.size, fun k hk hn => (hb.block k (Nat.lt_of_lt_of_le hk h.size)).trans (h.block k hk hn)⟩
theorem grown_setRow {a b : World} {g : Nat} (cs : Array Value) (h : a.grownBy b (some g)) : a.grownBy (b.setRow g cs) (some g) := by
  refine ⟨h.os, h.tape, h.output, ?_, fun k hk hn => ?_⟩
  · have e : (b.setRow g cs).heap.size = b.heap.size := by simp
    rw [e]; exact h.size
  · rw [setRow_other b g k cs (fun e => hn (by rw [e]))]
    exact h.block k hk hn
theorem slice_part (g r : Nat) (hr : r < 128) (W : World) : (Instr.sliceAt 32 (.pointer (some ⟨g, 8, none⟩)) (some (.int .u64 (r : Int))) none none).run Try.prog W = .ok (.slice (some ⟨g, 8 + r, none⟩) (128 - r) (128 - r)) W := by
  have ht : Try.prog.underlying 32 = some (.array (Try.prog.arrayLen 32) (Try.prog.elem 32)) := by kernel_rfl
  have hn : Try.prog.arrayLen 32 = 128 := by kernel_rfl
  have hs : (sizeOf (Try.prog.elem 32)).run Try.prog W = .ok 1 W := by kernel_rfl
  rw [run_sliceAt_array_l W _ _ ht .u64 _ (by omega) (by rw [hn]; omega), hs]
  show Result.ok (slicedAt _ _ _ _ 1) W = _
  rw [Int.toNat_natCast, hn, slicedAt, if_neg (by omega), addr_add]
  simp
theorem elem8 : Try.prog.underlying 22 = some (.slice (Try.prog.elem 22)) := by kernel_rfl
theorem size8 (W : World) : (sizeOf (Try.prog.elem 22)).run Try.prog W = .ok 1 W := by kernel_rfl
theorem slice_first (ad : Addr) (m c n : Nat) (h : n ≤ c) (W : World) : (Instr.sliceAt 22 (.slice (some ad) m c) none (some (.int .i64 (n : Int))) (some (.int .i64 (n : Int)))).run Try.prog W = .ok (.slice (some (if n = 0 then ad else ad.add 0)) n n) W := by
  rw [run_sliceAt_slice _ _ _ _ _ _ elem8, run_slice_hm W 22 (some ad) m c elem8 .i64 .i64 _ _ (by omega) (Int.le_refl _) (by omega), size8]
  show Result.ok (sliced _ _ _ _ 1) W = _
  rw [Int.toNat_natCast, sliced, Nat.zero_mul]
  by_cases e : n = 0
  · rw [if_pos e, if_pos e]; rfl
  · rw [if_neg e, if_neg e]; rfl
theorem slice_rest (b0 o m c n : Nat) (h : n ≤ m) (hc : m ≤ c) : ∃ ao2 : Option Addr, (n < m → ao2 = some ⟨b0, o + n, none⟩) ∧ ∀ W, (Instr.sliceAt 22 (.slice (some ⟨b0, o, none⟩) m c) (some (.int .i64 (n : Int))) none none).run Try.prog W = .ok (.slice ao2 (m - n) (c - n)) W := by
  refine ⟨if c = n then some ⟨b0, o, none⟩ else some ⟨b0, o + n, none⟩, fun hn => if_neg (by omega), fun W => ?_⟩
  rw [run_sliceAt_slice _ _ _ _ _ _ elem8, run_slice_l W 22 (some ⟨b0, o, none⟩) m c elem8 .i64 _ (by omega) (by omega), size8]
  show Result.ok (sliced _ _ _ _ 1) W = _
  rw [Int.toNat_natCast, sliced, Nat.mul_one, Option.map_some, addr_add]
theorem zbuilt : Try.prog.built 32 [] = some (irow .u8 (zr 128)) := by kernel_rfl
theorem copy_part {W : World} {g r b0 o n : Nat} {ws ps c : List Int} {sz : Int} (hg : W.heap[g]? = some (.cells (hcells ws ps sz) 65 (0, 0))) (h1 : ws.length = 8) (h2 : ps.length = 128) (hc : ∀ j, j < c.length → W.cell? ⟨b0, o + j, none⟩ = some (.int .u8 (c.getD j 0))) (hn : c.length = n) (hr : r + n ≤ 128) :
    (Builtin.copy_ #[22, 22] 3 #[.slice (some ⟨g, 8 + r, none⟩) (128 - r) (128 - r), .slice (some ⟨b0, o, none⟩) n n]).run Try.prog W = .ok (goInt n) (W.setRow g (hcells ws (ps.take r ++ c ++ ps.drop (r + n)) sz)) := by
  have hsrc : ∀ j u, (c.map (Value.int .u8))[j]? = some u → W.cell? ((⟨b0, o, none⟩ : Addr).add j) = some u := by
    intro j u hu
    have hj : j < c.length := by have := (List.getElem?_eq_some_iff.1 hu).1; simpa using this
    have : u = .int .u8 (c.getD j 0) := by
      simp only [List.getElem?_map, List.getElem?_eq_getElem hj, Option.map_some, Option.some.injEq] at hu
      rw [← hu, List.getD_eq_getElem?_getD, List.getElem?_eq_getElem hj]; rfl
    rw [this, addr_add]
    exact hc j hj
  have hrun := run_copy_row (P := Try.prog) W 22 22 3 5 g (8 + r) (128 - r) (128 - r) ⟨b0, o, none⟩ n n (hcells ws ps sz) 65 (c.map (Value.int .u8)) Try.underlying22 (by kernel_rfl) hg (by rw [List.length_map, hn]; exact (Nat.min_eq_left (by omega)).symm) hsrc (by rw [hcells_size _ _ _ h1 h2, List.length_map]; omega) (ints_one .u8 c)
  rw [hcells_copy ws ps c sz r h1 h2 (by omega), List.length_map, hn] at hrun
  exact hrun
set_option maxRecDepth 100000 in
set_option maxHeartbeats 8000000 in
theorem a_write (bs b : List Int) (g : Nat) (w : World) (v : Value) (hH : w.heap[g]? = some (.cells (hst bs) 65 (0, 0))) (hB : Bys w v b) (hne : ∀ a l c, v = .slice (some a) l c → 0 < l → a.block ≠ g) (hcap : ∀ a l c, v = .slice a l c → l ≤ c) (hzb : ∀ z ∈ bs, 0 ≤ z ∧ z < 256) (hlim : bs.length + b.length ≤ 4611686018427387904) :
    Calls Try.prog 24 #[.pointer (some ⟨g, 0, none⟩), v] w fun e w' => e = .returned (.tuple #[]) ∧ w'.heap[g]? = some (.cells (hst (bs ++ b)) 65 (0, 0)) ∧ w.grownBy w' (some g) := by
  obtain ⟨ao, cap, rfl, hl63, hc, hz⟩ := hB
  replace hcap := hcap _ _ _ rfl
  generalize elen : b.length = len at *
  have hgl := lt_of_row hH
  go_enter Try.func24, Try.ntmps24
  go_wp2_with (fail)
  go_loopw [1] (fun x wr => ∃ (k : Nat) (ao' : Option Addr), k ≤ len ∧ x = .slice ao' (len - k) (cap - k) ∧ (k < len → ∃ b0 off, ao = some ⟨b0, off, none⟩ ∧ ao' = some ⟨b0, off + k, none⟩) ∧ wr.heap[g]? = some (.cells (hst (bs ++ b.take k)) 65 (0, 0)) ∧ w.grownBy wr (some g)) (fun x _ => slen x)
  case atStart =>
    refine ⟨0, ao, by omega, rfl, fun h => ?_, by simpa using hH, World.grownBy.refl _ _⟩
    obtain ⟨b0, off, e, _⟩ := hc 0 h
    exact ⟨b0, off, e, e⟩
  case round =>
    obtain ⟨k, ao', hk, rfl, hadr, rH, hw⟩ := hrel
    by_cases hlt : k < len
    · obtain ⟨b0, off, rfl, rfl⟩ := hadr hlt
      have hb0 := hne _ _ _ rfl (by omega)
      replace hb0 : b0 ≠ g := hb0
      have hcell : ∀ j, j < len → wr.cell? ⟨b0, off + j, none⟩ = some (.int .u8 (b.getD j 0)) := fun j hj => by
        obtain ⟨b1, o1, e, hb1, hb2⟩ := hc j hj
        cases e
        exact hw.cell hb2 (by intro e; injection e with e; exact hb0 e)
      have hal : (bs ++ b.take k).length = bs.length + k := by rw [List.length_append, List.length_take]; omega
      have hab : ∀ z ∈ bs ++ b.take k, 0 ≤ z ∧ z < 256 := both_bd hzb (fun z h => hz z (List.mem_of_mem_take h))
      have hnx : ∀ n, bs ++ b.take (k + n) = bs ++ b.take k ++ (b.drop k).take n := fun n => by rw [List.append_assoc, ← List.take_add]
      have hgl2 := lt_of_row rH
      clear hadr hne hc hH hzb
      generalize bs ++ b.take k = a at *
      have hw8 := hwords_len a
      have hp64 := hpart_len a
      have hless := hst_less a
      have hfull := hst_full a
      have hwat := wat_bd (bs := a)
      have hover := fun c => part_over a c (a.length / 128) (a.length % 128) (by omega)
      rw [show prq (wat a (a.length / 128)) (a.length % 128) = hpart a from rfl] at hover
      rw [hst] at rH
      have csz := cell_of rH (hcells_at _ _ _ hw8 hp64)
      generalize eA : a.length = A at *
      obtain ⟨r, er⟩ : ∃ r : Nat, r = A % 128 := ⟨_, rfl⟩
      have hr : r < 128 := by omega
      have eri : (A : Int) % 128 = (r : Int) := by omega
      rw [← er] at hover hless hfull
      generalize A / 128 = q at *
      generalize hwords a = ws at *
      generalize hpart a = ps at *
      obtain ⟨m, em⟩ : ∃ m : Nat, m = len - k := ⟨_, rfl⟩
      rw [← em]
      have hm : 0 < m := by omega
      obtain ⟨C, eC⟩ : ∃ C : Nat, C = cap - k := ⟨_, rfl⟩
      rw [← eC]
      have hmC : m ≤ C := by omega
      have hAl : A ≤ 4611686018427387904 := by omega
      have hAm : A + m ≤ 4611686018427387904 := by omega
      clear hwat
      -- how many bytes the block takes up
      obtain ⟨n, hn1, hnm, hn64, hdec⟩ : ∃ n : Nat, 0 < n ∧ n ≤ m ∧ r + n ≤ 128 ∧ ((n = m ∧ m < 128 - r) ∨ (n = 128 - r ∧ 128 - r ≤ m)) := by
        by_cases h : m < 128 - r
        · exact ⟨m, hm, Nat.le_refl _, by omega, .inl ⟨rfl, h⟩⟩
        · exact ⟨128 - r, by omega, by omega, by omega, .inr ⟨rfl, by omega⟩⟩
      have hcl : ((b.drop k).take n).length = n := by rw [List.length_take, List.length_drop]; omega
      have hcs : ∀ j, j < ((b.drop k).take n).length → wr.cell? ⟨b0, off + k + j, none⟩ = some (.int .u8 (((b.drop k).take n).getD j 0)) := fun j hj => by
        rw [hcl] at hj
        have := hcell (k + j) (by omega)
        rw [← Nat.add_assoc] at this
        rw [this, List.getD_eq_getElem?_getD, List.getD_eq_getElem?_getD, List.getElem?_take_of_lt hj, List.getElem?_drop]
      have hnx' := hnx n
      have hov := hover ((b.drop k).take n) (by rw [hcl]; exact hn64)
      have hls := hless ((b.drop k).take n)
      have hfl := hfull ((b.drop k).take n)
      have hcb : ∀ z ∈ a ++ (b.drop k).take n, 0 ≤ z ∧ z < 256 := both_bd hab (fun z h => hz z (List.mem_of_mem_drop (List.mem_of_mem_take h)))
      have hpo := prq_bd (wat_bd hcb q) 128
      rw [hcl] at hov hls hfl
      clear hover hless hfull hnx hcell hcb hab hz
      generalize (b.drop k).take n = c at *
      generalize eo : off + k = o at *
      replace eo := hide eo
      have sl1 := slice_part g r hr
      have sl2 := slice_first ⟨b0, o, none⟩ m C n (by omega)
      rw [if_neg (show ¬ n = 0 by omega), addr_add, Nat.add_zero] at sl2
      obtain ⟨ao2, hao2, sl3⟩ := slice_rest b0 o m C n hnm hmC
      have hpl : (ps.take r ++ c ++ ps.drop (r + n)).length = 128 := by rw [hov, prq_len]
      have hcp := fun (W : World) (rW : W.heap[g]? = some (.cells (hcells ws ps (A : Int)) 65 (0, 0))) hcW => copy_part (W := W) (r := r) (b0 := b0) (o := o) (c := c) rW hw8 hp64 hcW hcl hn64
      rw [hov] at hpl
      simp only [hov] at hcp
      replace hov := hide hov
      replace hnx' := hide hnx'
      replace hls := hide hls
      replace hfl := hide hfl
      replace hpo := hide hpo
      have hAn : (A : Int) + (n : Int) < 18446744073709551616 := by omega
      rcases hdec with ⟨hE, hE2⟩ | ⟨hE, hE2⟩
      · have e64 : ¬ ((128 : Int) - (r : Int) ≤ (m : Int)) := by omega
        have hmod : (((A : Int) + (n : Int)) % 128 == 0) = false := by rw [beq_eq_false_iff_ne]; omega
        clear er hal hlim hl63
        replace em := hide em
        replace eC := hide eC
        replace elen := hide elen
        subst hE
        go_wp2
        refine wp_region_alloc_ex 9 9 [] (fun _ => .cells #[] 0 (0, 0)) (by kernel_rfl) (by decide) (by decide) (by kernel_rfl) (by kernel_rfl) (by kernel_rfl) (by kernel_rfl) (by kernel_rfl) (by kernel_rfl) (by kernel_rfl) (by kernel_rfl) (by decide) (by decide) ?_ ?_
        · intro s l u
          omega
        apply Exists.intro
        constructor
        · intro v_ hb
          clear hb; dsimp only [List.take]
          go_big_quiet_step (fail)
          go_big_quiet_step (fail)
          go_big_quiet_step (fail)
          go_big_quiet_step (fail)
          go_big_quiet_step (fail)
          go_big_quiet_step (fail)
          go_big_quiet_step (fail)
          go_big_quiet_step (fail)
          go_big_quiet_step (fail)
          refine wpQuiet_nil ?_
          rfl
        intro w1 g_ hb _ _
        simp only [List.drop, puts, ptrs, List.map, List.foldl, Act.put]

        have hcs1 : ∀ j, j < c.length → w1.cell? ⟨b0, o + j, none⟩ = some (.int .u8 (c.getD j 0)) := fun j hj => (hb.cell (p := ⟨b0, o + j, none⟩) (blk_lt (hcs j hj))).trans (hcs j hj)
        have rH1 := keep hb rH
        have hcopy := hcp w1 rH1 hcs1
        replace hw := grown_setRow (hcells ws (prq (wat (a ++ c) q) (r + n)) (A : Int)) (grown_below hw hb)
        have r2 := setRow_heap w1 g _ (hcells ws (prq (wat (a ++ c) q) (r + n)) (A : Int)) _ _ rH1
        have csz2 := cell_of r2 (hcells_at _ _ _ hw8 hpl)
        have hf2 := row_frozen r2 136
        have r3 := heap_setCell_same _ g 136 _ _ (.int .u64 ((A : Int) + (n : Int))) r2
        rw [hcells_setsz _ _ _ _ hw8 hpl] at r3
        replace hw := grown_setCell (j := 136) (v := .int .u64 ((A : Int) + (n : Int))) hw
        clear hcp hcs hcs1 rH rH1 csz hb sl1 sl2
        generalize w1.setRow g (hcells ws (prq (wat (a ++ c) q) (r + n)) (A : Int)) = w2 at *
        go_wp2
        refine ⟨⟨k + n, ao2, by have := em.out; omega, by have e1 := em.out; have e2 := eC.out; rw [show len - (k + n) = 0 by omega, show cap - (k + n) = C - n by omega], fun h => by have e1 := em.out; omega, by rw [hnx'.out, hls.out (by omega)]; exact r3, hw⟩, ?_⟩
        simp [slen]; omega
      · have h64 : r + n = 128 := by omega
        have e64 : (128 : Int) - (r : Int) ≤ (m : Int) := by omega
        have hmod : (((A : Int) + (n : Int)) % 128 == 0) = true := by rw [beq_iff_eq]; omega
        rw [h64] at hpl
        simp only [h64] at hcp
        have en : (128 : Int) - (r : Int) = (n : Int) := by omega
        replace h64 := hide h64
        replace hE := hide hE
        clear er hal hlim hl63
        replace em := hide em
        replace eC := hide eC
        replace elen := hide elen
        go_wp2
        refine wp_region_alloc_ex 9 9 [] (fun _ => .cells #[] 0 (0, 0)) (by kernel_rfl) (by decide) (by decide) (by kernel_rfl) (by kernel_rfl) (by kernel_rfl) (by kernel_rfl) (by kernel_rfl) (by kernel_rfl) (by kernel_rfl) (by kernel_rfl) (by decide) (by decide) ?_ ?_
        · intro s l u
          omega
        apply Exists.intro
        constructor
        · intro v_ hb
          clear hb; dsimp only [List.take]
          go_big_quiet_step (fail)
          go_big_quiet_step (fail)
          go_big_quiet_step (fail)
          go_big_quiet_step (fail)
          go_big_quiet_step (fail)
          go_big_quiet_step (fail)
          go_big_quiet_step (fail)
          go_big_quiet_step (fail)
          go_big_quiet_step (fail)
          refine wpQuiet_nil ?_
          rfl
        intro w1 g_ hb _ _
        simp only [List.drop, puts, ptrs, List.map, List.foldl, Act.put]

        have hcs1 : ∀ j, j < c.length → w1.cell? ⟨b0, o + j, none⟩ = some (.int .u8 (c.getD j 0)) := fun j hj => (hb.cell (p := ⟨b0, o + j, none⟩) (blk_lt (hcs j hj))).trans (hcs j hj)
        have rH1 := keep hb rH
        have hcopy := hcp w1 rH1 hcs1
        replace hw := grown_setRow (hcells ws (prq (wat (a ++ c) q) 128) (A : Int)) (grown_below hw hb)
        have r2 := setRow_heap w1 g _ (hcells ws (prq (wat (a ++ c) q) 128) (A : Int)) _ _ rH1
        have csz2 := cell_of r2 (hcells_at _ _ _ hw8 hpl)
        have hf2 := row_frozen r2 136
        have r3 := heap_setCell_same _ g 136 _ _ (.int .u64 ((A : Int) + (n : Int))) r2
        rw [hcells_setsz _ _ _ _ hw8 hpl] at r3
        replace hw := grown_setCell (j := 136) (v := .int .u64 ((A : Int) + (n : Int))) hw
        clear hcp hcs hcs1 rH rH1 csz hb sl1 sl2
        generalize w1.setRow g (hcells ws (prq (wat (a ++ c) q) 128) (A : Int)) = w2 at *
        go_wp2
        have cB := a_block ws (prq (wat (a ++ c) q) 128) hw8 hpl hpo.out
        have hbl := blk_len ws (prq (wat (a ++ c) q) 128)
        have hres := hfl.out h64.out
        generalize w2.setCell ⟨g, 136, none⟩ (.int .u64 ((A : Int) + (n : Int))) = w3 at *
        clear hcopy r2 csz2 hf2 hls hfl hov hpo
        generalize prq (wat (a ++ c) q) 128 = NP at *
        generalize blk ws NP = BW at *
        have hpw : (hcells ws NP ((A : Int) + (n : Int))).extract 0 (0 + (irow .u64 ws).size) = irow .u64 ws := by rw [irow_size, hw8]; exact hcells_words _ _ _ hw8
        have hpp : (hcells ws NP ((A : Int) + (n : Int))).extract 8 (8 + (irow .u8 NP).size) = irow .u8 NP := by rw [irow_size, hpl]; exact hcells_part _ _ _ hw8 hpl
        have HR := keepr r3
        replace hres := hide hres
        refine wp_region_tail (C := fun w' => ∃ p : Regrown, w' = grow (redrawn w3 p.d) p.os) 12 _ rfl rfl rfl (by kernel_rfl) (by kernel_rfl) (by kernel_rfl) (by kernel_rfl) ⟨⟨w3.drawn + 1, #[]⟩, by rw [grow_empty]; rfl⟩ ?_
        dsimp only [List.set, idle]
        go_big_quiet_step (fail)
        go_big_quiet_step (fail)
        go_big_quiet_step (fail)
        go_big_quiet_step (fail)
        refine wpQuiet_load_part rfl 31 _ rfl g 0 rfl 65 (hcells ws NP ((A : Int) + (n : Int))) (0, 0) (irow .u64 ws) _ HR.out hpw Try.underlying31 rfl (info23 _ hw8) ?_
        simp only [Act.put, List.setIfInBounds_toArray, List.set_cons_succ, List.set_cons_zero]
        go_big_quiet_step (fail)
        go_big_quiet_step (fail)
        go_big_quiet_step (fail)
        refine wpQuiet_load_part rfl 32 _ rfl g 8 rfl 65 (hcells ws NP ((A : Int) + (n : Int))) (0, 0) (irow .u8 NP) _ HR.out hpp Try.underlying32 rfl (info24 _ hpl) ?_
        simp only [Act.put, List.setIfInBounds_toArray, List.set_cons_succ, List.set_cons_zero]
        go_big_quiet_step (exact cB.re)
        go_big_quiet_step (fail)
        go_big_quiet_step (fail)
        refine wpQuiet_idle rfl rfl rfl ?_
        rintro _ ⟨p, rfl⟩
        have hb := below_regrown w3 p.d p.os
        generalize grow (redrawn w3 p.d) p.os = w4 at *
        replace r3 := keep hb r3
        replace hw := grown_below hw hb
        clear hb

        clear HR hpw hpp cB
        go_wp2_with (first | (refine wpList_store_part rfl 31 _ _ rfl g 0 (irow .u64 BW) rfl rfl 65 _ (hcells BW NP ((A : Int) + (n : Int))) r3 (by rw [irow_size, hbl, hcells_size _ _ _ hw8 hpl]; omega) (hcells_setwords _ _ _ _ hw8 hpl hbl) (info23 _ hbl) (irow_one _ _) ?_) | (refine wpList_build_as rfl 32 _ rfl [] rfl (irow .u8 (zr 128)) zbuilt ?_) | (refine wpList_store_part rfl 32 _ _ rfl g 8 (irow .u8 (zr 128)) rfl rfl 65 _ (hcells BW (zr 128) ((A : Int) + (n : Int))) (setRow_heap w4 g _ (hcells BW NP ((A : Int) + (n : Int))) _ _ r3) (by rw [irow_size, zr_len, hcells_size _ _ _ hbl hpl]; omega) (hcells_setpart _ _ _ _ hbl hpl (zr_len 128)) (info24 _ (zr_len 128)) (irow_one _ _) ?_) | fail)
        have r5 := setRow_heap _ g _ (hcells BW (zr 128) ((A : Int) + (n : Int))) _ _ (setRow_heap w4 g _ (hcells BW NP ((A : Int) + (n : Int))) _ _ r3)
        replace hw := grown_setRow (hcells BW (zr 128) ((A : Int) + (n : Int))) (grown_setRow (hcells BW NP ((A : Int) + (n : Int))) hw)
        generalize (w4.setRow g (hcells BW NP ((A : Int) + (n : Int)))).setRow g (hcells BW (zr 128) ((A : Int) + (n : Int))) = w6 at *
        simp only [Act.put]
        refine ⟨?_, ?measure⟩
        apply Exists.intro
        apply Exists.intro
        repeat apply Exists.intro
        refine ⟨?rel, rfl⟩
        case rel =>
          refine ⟨k + n, ao2, by have := em.out; omega, by have e1 := em.out; have e2 := eC.out; rw [show len - (k + n) = m - n by omega, show cap - (k + n) = C - n by omega], fun h => ⟨b0, off, rfl, ?_⟩, by rw [hnx'.out, hres.out]; exact r5, hw⟩
          rw [hao2 (by have e1 := em.out; omega), ← eo.out, Nat.add_assoc]
        case measure =>
          show m - n < m
          omega
    · obtain rfl : k = len := by omega
      have hd : decide ((0 : Int) < ((k - k : Nat) : Int)) = false := by simp
      have et : b.take k = b := List.take_of_length_le (by omega)
      rw [et] at rH
      go_wp2
      go_end0
      exact ⟨rfl, rH, hw⟩

end Go.Proofs.Ytelildhjkknaiaa.Wi


namespace Go.Proofs.Ytelildhjkknaiaa.Wi
open Go Go.RowKit Go.Sort
attribute [local go_sem] setCell_drewN alloc_drewN

theorem zH (W : World) : (Instr.alloc 65 true (.tuple #[])).run Try.prog W = .ok (.pointer (some ⟨W.heap.size, 0, none⟩)) (W.alloc (.cells (hcells (zr 8) (zr 128) 0) 65)) := by kernel_rfl
theorem bH (cs : Array Value) (W : World) : (Instr.box 65 (.agg cs)).run Try.prog W = .ok (.pointer (some ⟨W.heap.size, 0, none⟩)) (W.alloc (.cells cs 65)) := by kernel_rfl
theorem nbuilt : Try.prog.built 65 [(0, .agg (irow .u64 sl))] = some (hst []) := by kernel_rfl
theorem infoH (ws ps : List Int) (sz : Int) (h1 : ws.length = 8) (h2 : ps.length = 128) : (Try.prog.info? 65).map (·.size) = some (hcells ws ps sz).size := by
  rw [hcells_size _ _ _ h1 h2]; kernel_rfl
theorem infoS (bs : List Int) : (Try.prog.info? 65).map (·.size) = some (hst bs).size := infoH _ _ _ (hwords_len bs) (hpart_len bs)
theorem fitS (bs : List Int) : (hcells (zr 8) (zr 128) 0).size = (hst bs).size := by
  rw [hcells_size _ _ _ (zr_len 8) (zr_len 128), hst, hcells_size _ _ _ (hwords_len bs) (hpart_len bs)]
theorem fitSS (a b : List Int) : (hst a).size = (hst b).size := (fitS a).symm.trans (fitS b)
set_option maxRecDepth 100000 in
set_option maxHeartbeats 2000000 in
theorem a_new (w : World) : Calls Try.prog 21 #[] w fun e w' => ∃ g, w.heap.size ≤ g ∧ e = .returned (.pointer (some ⟨g, 0, none⟩)) ∧ w'.heap[g]? = some (.cells (hst []) 65 (0, 0)) ∧ Below w.heap.size w w' := by
  go_enter Try.func21, Try.ntmps21
  go_wp2_with (fail)
  refine (a_start.at _).mono ?_
  rintro e_ w1 ⟨rfl, hb⟩
  have R0 := hp1_0 w1 (.cells (hst []) 65)
  have HW : Below w.heap.size w (w1.alloc (.cells (hst []) 65)) := hb.alloc hb.size _
  go_wp2_with (first | (refine wpList_build_as rfl 65 _ rfl [(0, .agg (irow .u64 sl))] rfl (hst []) nbuilt ?_) | (refine wpList_box rfl 65 _ rfl _ rfl (bH _) ?_) | fail)
  go_ret
  exact ⟨_, hb.size, rfl, R0, HW⟩
set_option maxRecDepth 100000 in
set_option maxHeartbeats 2000000 in
theorem a_size (bs : List Int) (g : Nat) (w : World) (rH : w.heap[g]? = some (.cells (hst bs) 65 (0, 0))) : Calls Try.prog 25 #[.pointer (some ⟨g, 0, none⟩)] w fun e w' => e = .returned (.int .u64 (bs.length : Int)) ∧ Below w.heap.size w w' := by
  have csz := cell_of rH (hcells_at _ _ _ (hwords_len bs) (hpart_len bs))
  go_enter Try.func25, Try.ntmps25
  go_wp2
  go_ret
  exact ⟨rfl, Below.refl _ _⟩
set_option maxRecDepth 100000 in
set_option maxHeartbeats 2000000 in
theorem a_clone (bs : List Int) (g : Nat) (w : World) (rH : w.heap[g]? = some (.cells (hst bs) 65 (0, 0))) : Calls Try.prog 27 #[.pointer (some ⟨g, 0, none⟩)] w fun e w' => e = .returned (.pointer (some ⟨w.heap.size, 0, none⟩)) ∧ w'.heap[w.heap.size]? = some (.cells (hst bs) 65 (0, 0)) ∧ Below w.heap.size w w' := by
  have R0 := hp1_0 w (.cells (hst bs) 65)
  have HW : Below w.heap.size w (w.alloc (.cells (hst bs) 65)) := (Below.refl _ _).alloc (Nat.le_refl _) _
  go_enter Try.func27, Try.ntmps27
  go_wp2_with (first | (refine wpList_load_want rfl 65 _ rfl g rfl 65 (hst bs) (0, 0) _ rH Try.underlying65 rfl (infoS _) ?_) | (refine wpList_alloc rfl 65 rfl (hcells (zr 8) (zr 128) 0) zH ?_) | (refine wpList_store_row rfl 65 _ _ rfl (w.heap.size) (hst bs) rfl rfl 65 _ (hp1_0 w _) (infoS _) (fitS _) (hcells_one _ _ _) ?_; rw [setRow_alloc_new _ _ _ _ _ _ rfl]) | fail)
  go_ret
  exact ⟨rfl, R0, HW⟩
set_option maxRecDepth 100000 in
set_option maxHeartbeats 2000000 in
theorem a_reset (bs : List Int) (g : Nat) (w : World) (rH : w.heap[g]? = some (.cells (hst bs) 65 (0, 0))) : Calls Try.prog 26 #[.pointer (some ⟨g, 0, none⟩)] w fun e w' => e = .returned (.tuple #[]) ∧ w'.heap[g]? = some (.cells (hst []) 65 (0, 0)) ∧ w.grownBy w' (some g) := by
  have cN := a_new w
  have lg := lt_of_row rH
  go_enter Try.func26, Try.ntmps26
  go_wp2_with (fail)
  refine cN.mono ?_
  rintro e_ w1 ⟨gN, hgN, rfl, rN, hb⟩
  replace rH := keep hb rH
  have hw := grown_below (World.grownBy.refl w (some g)) hb
  go_wp2_with (first | (refine wpList_load_want rfl 65 _ rfl gN rfl 65 (hst []) (0, 0) _ rN Try.underlying65 rfl (infoS _) ?_) | (refine wpList_store_row rfl 65 _ _ rfl g (hst []) rfl rfl 65 _ rH (infoS _) (fitSS _ _) (hcells_one _ _ _) ?_) | fail)
  go_end0
  exact ⟨rfl, setRow_heap w1 g _ _ _ _ rH, grown_setRow _ hw⟩
theorem sumW_eq (bs : List Int) : hwords (bs ++ padL bs.length) = sumW bs := rfl
set_option maxRecDepth 100000 in
set_option maxHeartbeats 4000000 in
theorem a_hsum (bs : List Int) (g : Nat) (w : World) (rH : w.heap[g]? = some (.cells (hst bs) 65 (0, 0))) (hz : ∀ z ∈ bs, 0 ≤ z ∧ z < 256) (hlim : bs.length ≤ 4611686018427387000) : Calls Try.prog 22 #[.pointer (some ⟨g, 0, none⟩)] w fun e w' => e = .returned (.agg (irow .u8 (sumL bs))) ∧ Below w.heap.size w w' := by
  have lg := lt_of_row rH
  have hpb := plen_bd bs.length
  have hpl := padL_len bs.length
  have r0 := hp2_0 w (.cells (irow .u8 (zr 64)) 26) (.cells (hst bs) 65)
  have r1 := hp2_1 w (.cells (irow .u8 (zr 64)) 26) (.cells (hst bs) 65)
  have hw : Below w.heap.size w ((w.alloc (.cells (irow .u8 (zr 64)) 26)).alloc (.cells (hst bs) 65)) := ((Below.refl _ _).alloc (Nat.le_refl _) _).alloc (by simp) _
  have rH0 : (w.alloc (.cells (irow .u8 (zr 64)) 26)).heap[g]? = some (.cells (hst bs) 65 (0, 0)) := keep ((Below.refl _ _).alloc (Nat.le_refl _) _) rH
  have csz := cell_of (keep hw rH) (hcells_at _ _ _ (hwords_len bs) (hpart_len bs))
  have cP := a_pad bs.length (by omega)
  go_enter Try.func22, Try.ntmps22
  go_wp2_with (first | (refine wpList_alloc rfl 26 rfl (irow .u8 (zr 64)) zwide ?_) | (refine wpList_load_want rfl 65 _ rfl g rfl 65 (hst bs) (0, 0) _ rH0 Try.underlying65 rfl (infoS _) ?_) | (refine wpList_alloc rfl 65 rfl (hcells (zr 8) (zr 128) 0) zH ?_) | (refine wpList_store_row rfl 65 _ _ rfl ((w.alloc (.cells (irow .u8 (zr 64)) 26)).heap.size) (hst bs) rfl rfl 65 _ (hp1_0 (w.alloc (.cells (irow .u8 (zr 64)) 26)) _) (infoS _) (fitS _) (hcells_one _ _ _) ?_; rw [setRow_alloc_new _ _ _ _ _ _ rfl]) | fail)
  try simp only [size_alloc1, Act.put, List.setIfInBounds_toArray, List.set_cons_succ, List.set_cons_zero]
  have ysz : ((w.alloc (.cells (irow .u8 (zr 64)) 26)).alloc (.cells (hst bs) 65)).heap.size = w.heap.size + 1 + 1 := by rw [size_alloc1, size_alloc1]
  generalize ((w.alloc (.cells (irow .u8 (zr 64)) 26)).alloc (.cells (hst bs) 65)) = w0 at *
  refine (cP w0).mono ?_
  rintro e_ w1 ⟨vp, gp, rfl, rfl, hgp, rp, hb⟩
  replace r0 := keep hb r0
  replace r1 := keep hb r1
  replace hw := Below.after hw hb
  clear hb csz rH0 cP
  have hBp : Bys w1 (.slice (some ⟨gp, 0, none⟩) (plen bs.length) (plen bs.length)) (padL bs.length) := by rw [← hpl]; exact Bys.of_row rp (by omega) (padL_bd _) _
  have cW := a_write bs (padL bs.length) (w.heap.size + 1) w1 _ r1 hBp (fun a l c h _ => by cases h; show gp ≠ w.heap.size + 1; omega) (fun a l c h => by cases h; exact Nat.le_refl _) hz (by rw [hpl]; omega)
  go_wp2_with (fail)
  refine cW.mono ?_
  rintro e_ w2 ⟨rfl, r2, hgr⟩
  have l0 := lt_of_row r0
  replace r0 : w2.heap[w.heap.size]? = _ := (hgr.block _ l0 (by intro e; injection e with e; omega)).trans r0
  replace hw := hw.grown hgr hw.size (fun k h => by injection h with h; omega)
  clear hgr cW r1 hBp rp
  have hW8 := sumW_len bs
  have hWb := sumW_bd bs
  have hSl := sumL_len bs
  have cT := a_told (sumW bs) hW8 hWb
  rw [show byts (sumW bs) = sumL bs from rfl] at cT
  rw [hst, sumW_eq] at r2
  have hq64 := hpart_len (bs ++ padL bs.length)
  generalize hpart (bs ++ padL bs.length) = PS at *
  generalize (((bs ++ padL bs.length).length : Nat) : Int) = SZ at *
  generalize sumW bs = SW at *
  have hpw : (hcells SW PS SZ).extract 0 (0 + (irow .u64 SW).size) = irow .u64 SW := by rw [irow_size, hW8]; exact hcells_words _ _ _ hW8
  clear hWb hpl hpb
  go_wp2_with (first | (refine wpList_load_part rfl 31 _ rfl (w.heap.size + 1) 0 rfl 65 (hcells SW PS SZ) (0, 0) (irow .u64 SW) _ r2 hpw Try.underlying31 rfl (info23 _ hW8) ?_) | fail)
  refine (cT.at _).mono ?_
  rintro e_ w3 ⟨rfl, hb⟩
  replace r0 := keep hb r0
  replace hw := Below.after hw hb
  clear hb cT
  go_wp2_with (first | (refine wpList_store_row rfl 26 _ _ rfl (w.heap.size) (irow .u8 (sumL bs)) rfl rfl 26 _ r0 (infok8 _ hSl) (fit64 _ _ (zr_len 64) hSl) (irow_one _ _) ?_) | fail)
  replace r0 := setRow_heap w3 (w.heap.size) _ (irow .u8 (sumL bs)) _ _ r0
  replace hw := below_setRow hw (Nat.le_refl _) (irow .u8 (sumL bs))
  generalize w3.setRow (w.heap.size) (irow .u8 (sumL bs)) = w9 at *
  exact bodyPost_ret (v := .agg (irow .u8 (sumL bs))) (results_cell_row Try.results22 _ _ (w.heap.size) _ _ _ _ rfl r0 Try.underlying26 rfl (infok8 _ hSl)) rfl ⟨rfl, hw⟩
set_option maxRecDepth 100000 in
set_option maxHeartbeats 4000000 in
theorem a_sum (bs : List Int) (w : World) (v : Value) (hB : Bys w v bs) (hcap : ∀ a l c, v = .slice a l c → l ≤ c) (hlim : bs.length ≤ 4611686018427387000) : Calls Try.prog 12 #[v] w fun e w' => e = .returned (.agg (irow .u8 (sumL bs))) ∧ Below w.heap.size w w' := by
  have r0 := hp1_0 w (.cells (irow .u8 (zr 64)) 26)
  have hw : Below w.heap.size w (w.alloc (.cells (irow .u8 (zr 64)) 26)) := (Below.refl _ _).alloc (Nat.le_refl _) _
  have hB0 := hB.keep hw
  obtain ⟨ao, cap, rfl, _, hc, hz⟩ := hB
  replace hcap := hcap _ _ _ rfl
  have hSl := sumL_len bs
  have hne : ∀ a, ao = some a → 0 < bs.length → a.block < w.heap.size := by
    rintro a rfl hl
    obtain ⟨b0, off, e, hb, _⟩ := hc 0 hl
    cases e
    exact hb
  clear hc
  go_enter Try.func12, Try.ntmps12
  go_wp2_with (first | (refine wpList_alloc rfl 26 rfl (irow .u8 (zr 64)) zwide ?_) | fail)
  try simp only [size_alloc1, Act.put, List.setIfInBounds_toArray, List.set_cons_succ, List.set_cons_zero]
  have ysz : (w.alloc (.cells (irow .u8 (zr 64)) 26)).heap.size = w.heap.size + 1 := size_alloc1 _ _
  generalize (w.alloc (.cells (irow .u8 (zr 64)) 26)) = w0 at *
  refine (a_new w0).mono ?_
  rintro e_ w1 ⟨gN, hgN, rfl, r1, hb⟩
  replace r0 := keep hb r0
  replace hB0 := hB0.keep hb
  replace hw := Below.after hw hb
  clear hb
  rw [ysz] at hgN
  clear ysz
  have cW := a_write [] bs gN w1 _ r1 hB0 (fun a l c h hl => by cases h; have := hne a rfl hl; omega) (fun a l c h => by cases h; exact hcap) (by simp) (by simp; omega)
  rw [List.nil_append] at cW
  go_wp2_with (fail)
  refine cW.mono ?_
  rintro e_ w2 ⟨rfl, r2, hgr⟩
  have l0 := lt_of_row r0
  replace r0 : w2.heap[w.heap.size]? = _ := (hgr.block _ l0 (by intro e; injection e with e; omega)).trans r0
  replace hw := hw.grown hgr hw.size (fun k h => by injection h with h; omega)
  clear hgr cW r1
  have cS := a_hsum bs gN w2 r2 hz hlim
  go_wp2_with (fail)
  refine cS.mono ?_
  rintro e_ w3 ⟨rfl, hb⟩
  replace r0 := keep hb r0
  replace hw := Below.after hw hb
  clear hb cS
  go_wp2_with (first | (refine wpList_store_row rfl 26 _ _ rfl (w.heap.size) (irow .u8 (sumL bs)) rfl rfl 26 _ r0 (infok8 _ hSl) (fit64 _ _ (zr_len 64) hSl) (irow_one _ _) ?_) | fail)
  replace r0 := setRow_heap w3 (w.heap.size) _ (irow .u8 (sumL bs)) _ _ r0
  replace hw := below_setRow hw (Nat.le_refl _) (irow .u8 (sumL bs))
  generalize w3.setRow (w.heap.size) (irow .u8 (sumL bs)) = w9 at *
  exact bodyPost_ret (v := .agg (irow .u8 (sumL bs))) (results_cell_row Try.results12 _ _ (w.heap.size) _ _ _ _ rfl r0 Try.underlying26 rfl (infok8 _ hSl)) rfl ⟨rfl, hw⟩

end Go.Proofs.Ytelildhjkknaiaa.Wi


namespace Go.Proofs.Ytelildhjkknaiaa.Wi
open Go Go.RowKit Go.Sort
attribute [local go_sem] setCell_drewN alloc_drewN

/-- The marked room behind what is lent. -/
def marks (k : Nat) : List Int := (List.range k).map fun (i : Nat) => 171 + ((i % 60 : Nat) : Int)
theorem marks_succ (k : Nat) : marks (k + 1) = marks k ++ [171 + ((k % 60 : Nat) : Int)] := by simp [marks, List.range_succ]
set_option maxHeartbeats 2000000 in
theorem lent_walk (bs : List Int) (w : World) (ev : Value) (hB : Bys w ev bs) (hl : bs.length + 80 ≤ 281474976710656) (hnil : ∀ a l c, ev = .slice a l c → a = none → c = 0) : Calls Try.prog 11 #[ev] w fun e w' => ∃ v, e = .returned v ∧ ∃ g, v = .tuple #[.slice (some ⟨g, 0, none⟩) bs.length (bs.length + 80), .slice (some ⟨g, 0, none⟩) (bs.length + 80) (bs.length + 80)] ∧ w.heap.size ≤ g ∧ w'.heap[g]? = some (.cells (irow .u8 (bs ++ marks 80)) 5 (0, 0)) ∧ Below w.heap.size w w' := by
  obtain ⟨ao, cap, rfl, _, hc, hz⟩ := hB
  obtain ⟨i0, hi, hz0, hz1, hz2⟩ := info8
  generalize hlen : bs.length = len at *
  go_enter Try.func11, Try.ntmps11
  go_wp2_with (at_make; refine wpList_make_own _ rfl _ _ 22 rfl w.heap.size 5 i0 (.int .u8 0) 1 Try.underlying22 hi hz0 hz1 _ _ _ (len + 80) rfl rfl (by omega) ?b2 ?b3 (Nat.le_refl _) ?_)
  case b2 => rw [hz2]; omega
  case b3 => unfold maxLen; omega
  intro w0 hown0 hgrow0
  have hnone : ao = none → len = 0 ∧ cap = 0 := by
    intro h
    refine ⟨?_, hnil _ _ _ rfl h⟩
    rcases Nat.eq_zero_or_pos len with e | e
    · exact e
    · obtain ⟨b, off, e', _⟩ := hc 0 e
      rw [h] at e'; cases e'
  have hcell : ∀ ad, ao = some ad → ∀ j u, (bs.map (Value.int .u8))[j]? = some u → w0.cell? (ad.add j) = some u := by
    intro ad had j u hu
    have hj : j < len := by
      have := (List.getElem?_eq_some_iff.1 hu).1
      simpa [hlen] using this
    obtain ⟨b, off, e', hb, hcl⟩ := hc j hj
    obtain rfl : ad = ⟨b, off, none⟩ := Option.some.inj (had.symm.trans e')
    have : u = .int .u8 (bs.getD j 0) := by
      have hj' : j < bs.length := by omega
      simp only [List.getElem?_map, List.getElem?_eq_getElem hj', Option.map_some, Option.some.injEq] at hu
      rw [← hu, List.getD_eq_getElem?_getD, List.getElem?_eq_getElem hj']; rfl
    rw [this]
    rw [addr_add]
    exact hgrow0.cell (a := ⟨b, off + j, none⟩) hcl (fun e => by cases e)
  go_wp2_with (at_builtin; refine wpList_append_fits_any _ rfl (.tmp 10) (.tmp 11) 22 rfl w.heap.size 5 i0 1 Try.underlying22 hi hz1 w.heap.size 0 (len + 80) [] rfl hown0 ao len cap (bs.map (Value.int .u8)) rfl (by simp [hlen]) hnone hcell (ints_one .u8 bs) (by omega) ?_)
  intro w1 hown1 hgrow1
  have hw : Below w.heap.size w w1 := ((Below.refl _ _).grown hgrow0 (Nat.le_refl _) (fun k h => by cases h)).grown hgrow1 hgrow0.size (fun k h => by cases h; exact Nat.le_refl _)
  clear hcell hown0 hgrow0 hgrow1
  go_wp2
  go_loopw [4, 5] (fun s i wr => ∃ k : Nat, k ≤ 80 ∧ i = .int .i64 k ∧ s = .slice (some ⟨w.heap.size, 0, none⟩) (len + k) (len + 80) ∧ wr.ownsRow w.heap.size 5 1 (.slice (some ⟨w.heap.size, 0, none⟩) (len + k) (len + 80)) (len + k) ((bs ++ marks k).map (Value.int .u8)) ∧ Below w.heap.size w wr) (fun _ i _ => 80 - (intOf i).toNat)
  case atStart => exact ⟨0, by omega, rfl, by simp, by simpa [marks] using hown1, hw⟩
  case round =>
    obtain ⟨k, hk, rfl, rfl, hown, hw⟩ := hrel
    by_cases hlt : k < 80
    · have hd : decide ((k : Int) < 80) = true := by simp; omega
      have hown' : (wr.alloc (.cells #[.int .u8 (171 + (k : Int) % 60)] 5)).ownsRow w.heap.size 5 1 (.slice (some ⟨w.heap.size, 0, none⟩) (len + k) (len + 80)) (len + k) ((bs ++ marks k).map (Value.int .u8)) := hown.kept (World.grownBy_alloc wr _ none) (.inr (by simp [Value.ownBlock]))
      have hnew : ∀ ad, some (⟨wr.heap.size, 0, none⟩ : Addr) = some ad → ∀ j u, [Value.int .u8 (171 + (k : Int) % 60)][j]? = some u → (wr.alloc (.cells #[.int .u8 (171 + (k : Int) % 60)] 5)).cell? (ad.add j) = some u := by
        intro ad had j u hu
        obtain rfl := Option.some.inj had
        have hj : j = 0 := by
          have := (List.getElem?_eq_some_iff.1 hu).1
          simp at this
          exact this
        subst hj
        simp at hu
        subst hu
        rw [addr_add]
        have hg : (wr.alloc (.cells #[.int .u8 (171 + (k : Int) % 60)] 5)).heap[wr.heap.size]? = some (.cells #[.int .u8 (171 + (k : Int) % 60)] 5 (0, 0)) := hp1_0 wr _
        simp only [World.cell?, hg]
        rfl
      go_wp2_with (at_builtin; refine wpList_append_fits_any _ rfl (.tmp 17) (.tmp 22) 22 rfl w.heap.size 5 i0 1 Try.underlying22 hi hz1 w.heap.size (len + k) (len + 80) _ rfl hown' (some ⟨wr.heap.size, 0, none⟩) 1 1 [.int .u8 (171 + (k : Int) % 60)] rfl rfl (by intro h; cases h) hnew (by simp [Value.oneCell']) (by omega) ?_)
      intro w2 hown2 hgrow2
      have hw2 : Below w.heap.size w w2 := (hw.alloc hw.size _).grown hgrow2 (by simp; have := hw.size; omega) (fun k h => by cases h; exact Nat.le_refl _)
      replace hown2 : w2.ownsRow w.heap.size 5 1 (.slice (some ⟨w.heap.size, 0, none⟩) (len + (k + 1)) (len + 80)) (len + (k + 1)) ((bs ++ marks (k + 1)).map (Value.int .u8)) := by rw [marks_succ, ← Nat.add_assoc]; simpa using hown2
      clear hown hown' hnew hgrow2 hw
      go_wp2
      go_roundw
      case rel => exact ⟨k + 1, by omega, by go_num, rfl, hown2, hw2⟩
      case measure => simp [intOf]; omega
    · obtain rfl : k = 80 := by omega
      have hd : decide ((80 : Int) < 80) = false := by decide
      have hrow : wr.heap[w.heap.size]? = some (.cells (irow .u8 (bs ++ marks 80)) 5 (0, 0)) := by
        obtain ⟨hlx, h | ⟨g, cp, cur, hv, _, hg, _, _, hs, ht⟩⟩ := hown
        · cases h.1
        · cases hv
          rw [hg]
          have : cur = irow .u8 (bs ++ marks 80) := by
            apply Array.ext'
            rw [irow, ← ht]
            symm
            apply List.take_of_length_le
            rw [Array.length_toList]
            omega
          rw [this]
      clear hown
      go_wp2
      go_ret2
      exact ⟨_, rfl, _, rfl, Nat.le_refl _, hrow, hw⟩

theorem at_low (bs : List Int) (k : Nat) (hk : k < bs.length) : (bs ++ marks 80).getD k 0 = bs.getD k 0 := by
  simp [List.getD_eq_getElem?_getD, List.getElem?_append_left hk]
theorem at_high (bs : List Int) (k : Nat) (hk : ¬ k < bs.length) (hu : k < bs.length + 80) : (bs ++ marks 80).getD k 0 = 171 + ((k : Int) - bs.length) % 60 := by
  have : k - bs.length < 80 := by omega
  rw [List.getD_eq_getElem?_getD, List.getElem?_append_right (by omega)]
  simp [marks, this]
  omega
set_option maxHeartbeats 2000000 in
theorem kept_walk (bs : List Int) (g : Nat) (w : World) (ev : Value) (hB : Bys w ev bs) (hl : bs.length + 80 ≤ 281474976710656) (hg : w.heap[g]? = some (.cells (irow .u8 (bs ++ marks 80)) 5 (0, 0))) : Calls Try.prog 14 #[.slice (some ⟨g, 0, none⟩) (bs.length + 80) (bs.length + 80), ev] w fun e w' => e = .returned (.bool true) ∧ Below w.heap.size w w' := by
  obtain ⟨ao, cap, rfl, _, hc, hz⟩ := hB
  have hall : ∀ k, k < bs.length + 80 → w.cell? ⟨g, k, none⟩ = some (.int .u8 ((bs ++ marks 80).getD k 0)) := fun k hk => irow_cell hg (by simp [marks]; omega)
  have hgs := lt_of_row hg
  have hlow := at_low bs
  have hhigh := at_high bs
  generalize hlen : bs.length = len at *
  go_enter Try.func14, Try.ntmps14
  go_wp2
  go_loopw [5] (fun i wr => ∃ k : Nat, k ≤ len + 80 ∧ i = .int .i64 k ∧ Below w.heap.size w wr) (fun i _ => len + 80 - (intOf i).toNat)
  case atStart => exact ⟨0, by omega, rfl, Below.refl _ _⟩
  case round =>
    obtain ⟨k, hk, rfl, hw⟩ := hrel
    by_cases hlt : k < len + 80
    · have hd : decide ((k : Int) < (len : Int) + 80) = true := by simp; omega
      have h1 := (hw.cell (p := ⟨g, k, none⟩) hgs).trans (hall k hlt)
      by_cases hin : k < len
      · obtain ⟨b, off, rfl, hb1, hb2⟩ := hc k hin
        replace hb2 := (hw.cell (p := ⟨b, off + k, none⟩) hb1).trans hb2
        rw [hlow k hin] at h1
        have hd2 : decide ((k : Int) < (len : Int)) = true := by simp; omega
        have hd3 : decide (len ≤ k) = false := decide_eq_false (by omega)
        generalize bs.getD k 0 = z at *
        have k1 : ∀ p : Regrown, (grow (redrawn wr p.d) p.os).cell? ⟨g, k, none⟩ = some (.int .u8 z) := fun p => cell_regrown h1 p.d p.os
        have k2 : ∀ p : Regrown, (grow (redrawn wr p.d) p.os).cell? ⟨b, off + k, none⟩ = some (.int .u8 z) := fun p => cell_regrown hb2 p.d p.os
        clear h1 hb2 hall hc hlow hhigh
        go_wp2
        refine wp_region_quiet_below (by kernel_rfl) (by kernel_rfl) ?_
        go_big_quiet_step (fail)
        go_big_quiet_step (fail)
        go_big_quiet_step (fail)
        go_big_quiet_step (fail)
        go_big_quiet_step (fail)
        go_big_quiet_step (fail)
        go_big_quiet_step (fail)
        go_big_quiet_step (fail)
        go_big_quiet_step (fail)
        go_big_quiet_step (fail)
        go_big_quiet_step (fail)
        go_big_quiet_step (fail)
        go_big_quiet_step (fail)
        go_big_quiet_step (fail)
        go_big_quiet_step (fail)
        go_big_quiet_step (fail)
        go_big_quiet_step (fail)
        go_big_quiet_step (fail)
        go_big_quiet_step (fail)
        go_big_quiet_step (fail)
        go_big_quiet_step (fail)
        go_big_quiet_step (fail)
        go_big_quiet_step (fail)
        go_big_quiet_step (fail)
        go_big_quiet_step (fail)
        go_big_quiet_step (fail)
        go_big_quiet_step (fail)
        go_big_quiet_step (fail)
        go_big_quiet_step (fail)
        go_big_quiet_step (fail)
        go_big_quiet_step (fail)
        go_big_quiet_step (fail)
        go_big_quiet_step (fail)
        go_big_quiet_step (fail)
        go_big_quiet_step (fail)
        refine wpQuiet_nil ?_
        rintro _ ⟨p, rfl⟩
        have hb := below_regrown wr p.d p.os
        clear k1 k2
        generalize grow (redrawn wr p.d) p.os = w2 at *
        replace hw := Below.after hw hb
        clear hb
        go_wp2
        go_roundw
        case rel => exact ⟨k + 1, by omega, by go_num, hw⟩
        case measure => simp [intOf]; omega
      · rw [hhigh k hin hlt] at h1
        have hd2 : decide ((k : Int) < (len : Int)) = false := by simp; omega
        have hd3 : decide (len ≤ k) = true := decide_eq_true (by omega)
        have k1 : ∀ p : Regrown, (grow (redrawn wr p.d) p.os).cell? ⟨g, k, none⟩ = some (.int .u8 (171 + ((k : Int) - len) % 60)) := fun p => cell_regrown h1 p.d p.os
        clear h1 hall hc hlow hhigh
        go_wp2
        refine wp_region_quiet_below (by kernel_rfl) (by kernel_rfl) ?_
        go_big_quiet_step (fail)
        go_big_quiet_step (fail)
        go_big_quiet_step (fail)
        go_big_quiet_step (fail)
        go_big_quiet_step (fail)
        go_big_quiet_step (fail)
        go_big_quiet_step (fail)
        go_big_quiet_step (fail)
        go_big_quiet_step (fail)
        go_big_quiet_step (fail)
        go_big_quiet_step (fail)
        go_big_quiet_step (fail)
        go_big_quiet_step (fail)
        go_big_quiet_step (fail)
        go_big_quiet_step (fail)
        go_big_quiet_step (fail)
        go_big_quiet_step (fail)
        go_big_quiet_step (fail)
        go_big_quiet_step (fail)
        go_big_quiet_step (fail)
        go_big_quiet_step (fail)
        go_big_quiet_step (fail)
        go_big_quiet_step (fail)
        go_big_quiet_step (fail)
        go_big_quiet_step (fail)
        go_big_quiet_step (fail)
        go_big_quiet_step (fail)
        go_big_quiet_step (fail)
        go_big_quiet_step (fail)
        go_big_quiet_step (fail)
        go_big_quiet_step (fail)
        go_big_quiet_step (fail)
        go_big_quiet_step (fail)
        go_big_quiet_step (fail)
        go_big_quiet_step (fail)
        refine wpQuiet_nil ?_
        rintro _ ⟨p, rfl⟩
        have hb := below_regrown wr p.d p.os
        clear k1
        generalize grow (redrawn wr p.d) p.os = w2 at *
        replace hw := Below.after hw hb
        clear hb
        go_wp2
        go_roundw
        case rel => exact ⟨k + 1, by omega, by go_num, hw⟩
        case measure => simp [intOf]; omega
    · obtain rfl : k = len + 80 := by omega
      have hd : decide (((len + 80 : Nat) : Int) < (len : Int) + 80) = false := by simp
      go_wp2
      go_ret
      exact ⟨rfl, hw⟩


end Go.Proofs.Ytelildhjkknaiaa.Wi


namespace Go.Proofs.Ytelildhjkknaiaa.Wi
open Go Go.RowKit Go.Sort
attribute [local go_sem] setCell_drewN alloc_drewN

theorem infoU64 : ∃ i, Try.prog.info? 30 = some i := ⟨_, rfl⟩
theorem cellsU64 : Try.prog.cellsOf 30 = 1 := by kernel_rfl
theorem eq23 (l m : List Int) (hl : l.length = 8) (hm : m.length = 8) (w : World) : (Op.equalIn 10000 31 (.agg (irow .u64 l)) (.agg (irow .u64 m))).run Try.prog w = .ok (decide (l = m)) w := by
  obtain ⟨i0, hi⟩ := infoU64
  exact run_equal_ints w Try.underlying31 Try.underlying30 hi cellsU64 l m hl hm
set_option maxRecDepth 100000 in
set_option maxHeartbeats 4000000 in
theorem blocks_any (h b : List Int) (hl : h.length = 8) (hb : b.length = 128) (hh : ∀ x ∈ h, 0 ≤ x ∧ x < 18446744073709551616) (hz : ∀ z ∈ b, 0 ≤ z ∧ z < 256) (w : World) : Calls Try.prog 4 #[.agg (irow .u64 h), .agg (irow .u8 b)] w fun e w' => e = .returned (.bool true) ∧ Below w.heap.size w w' := by
  have cA := a_block h b hl hb hz
  have cR := r_block h b hl hh hb hz
  have hq := blk_len h b
  have heq : ∀ W, (Op.equalIn 10000 31 (.agg (irow .u64 (blk h b))) (.agg (irow .u64 (blk h b)))).run Try.prog W = .ok true W := fun W => by rw [eq23 _ _ hq hq]; simp
  have ib := info24 b hb
  have ih := info23 h hl
  clear hz hh
  have r0 := hp2_0 w (.cells (irow .u64 h) 31) (.cells (irow .u8 b) 32)
  have r1 := hp2_1 w (.cells (irow .u64 h) 31) (.cells (irow .u8 b) 32)
  have hw : Below w.heap.size w ((w.alloc (.cells (irow .u64 h) 31)).alloc (.cells (irow .u8 b) 32)) := (((Below.refl _ _).alloc (Nat.le_refl _) _).alloc (by simp) _)

  go_enter Try.func4, Try.ntmps4
  go_wp2_with (first | (refine wpList_box rfl 31 _ rfl _ rfl (bw8 _) ?_) | (refine wpList_box rfl 32 _ rfl _ rfl (bp128 _) ?_) | fail)
  try simp only [size_alloc1, Act.put, List.setIfInBounds_toArray, List.set_cons_succ, List.set_cons_zero]
  generalize ((w.alloc (.cells (irow .u64 h) 31)).alloc (.cells (irow .u8 b) 32)) = w0 at *
  generalize blk h b = R at *
  have Hr0 := keepr r0
  have Hr1 := keepr r1
  refine wp_region_quiet_below (by kernel_rfl) (by kernel_rfl) ?_
  refine wpQuiet_load_row rfl 31 _ rfl (w.heap.size) rfl 31 (irow .u64 h) (0, 0) _ Hr0.out Try.underlying31 rfl ih ?_
  simp only [Act.put, List.setIfInBounds_toArray, List.set_cons_succ, List.set_cons_zero]
  refine wpQuiet_load_row rfl 32 _ rfl (w.heap.size + 1) rfl 32 (irow .u8 b) (0, 0) _ Hr1.out Try.underlying32 rfl ib ?_
  simp only [Act.put, List.setIfInBounds_toArray, List.set_cons_succ, List.set_cons_zero]
  go_big_quiet_step (exact cA.re)
  refine wpQuiet_load_row rfl 31 _ rfl (w.heap.size) rfl 31 (irow .u64 h) (0, 0) _ Hr0.out Try.underlying31 rfl ih ?_
  simp only [Act.put, List.setIfInBounds_toArray, List.set_cons_succ, List.set_cons_zero]
  refine wpQuiet_load_row rfl 32 _ rfl (w.heap.size + 1) rfl 32 (irow .u8 b) (0, 0) _ Hr1.out Try.underlying32 rfl ib ?_
  simp only [Act.put, List.setIfInBounds_toArray, List.set_cons_succ, List.set_cons_zero]
  go_big_quiet_step (exact cR.re)
  go_big_quiet_step (fail)
  go_big_quiet_step (fail)
  refine wpQuiet_nil ?_
  rintro _ ⟨p, rfl⟩
  have hb := below_regrown w0 p.d p.os
  generalize grow (redrawn w0 p.d) p.os = w1 at *
  replace hw := Below.after hw hb
  clear hb

  go_wp2
  go_ret
  exact ⟨rfl, hw⟩

end Go.Proofs.Ytelildhjkknaiaa.Wi


namespace Go.Proofs.Ytelildhjkknaiaa.Wi
open Go Go.RowKit Go.Sort
attribute [local go_sem] setCell_drewN alloc_drewN

theorem own_at {W : World} {b n : Nat} {v : Value} {l : List Int} (h : W.ownsRow b 5 1 v n (l.map (Value.int .u8))) {j : Nat} (hj : j < n) : ∃ g cap, v = .slice (some ⟨g, 0, none⟩) n cap ∧ b ≤ g ∧ g < W.heap.size ∧ W.cell? ⟨g, j, none⟩ = some (.int .u8 (l.getD j 0)) ∧ W.frozen? ⟨g, j, none⟩ = false ∧ ∀ z, (W.setCell ⟨g, j, none⟩ (.int .u8 z)).ownsRow b 5 1 v n ((l.set j z).map (Value.int .u8)) := by
  obtain ⟨h1, ⟨rfl, rfl⟩ | ⟨g, cap, cur, rfl, hb, hg, hn, hm, hs, ht⟩⟩ := h
  · omega
  have hln : l.length = n := by simpa using h1
  simp only [Nat.mul_one] at ht hs
  refine ⟨g, cap, rfl, hb, lt_of_row hg, ?_, row_frozen hg j, fun z => ⟨by simpa using h1, .inr ⟨g, cap, _, rfl, hb, heap_setCell_same W g j cur _ _ hg, hn, hm, by simpa using hs, ?_⟩⟩⟩
  · rw [cell_of_row _ _ _ _ _ _ hg]
    have h2 := congrArg (fun q => q[j]?) ht
    rw [List.getElem?_take_of_lt hj, List.getElem?_map, List.getElem?_eq_getElem (show j < l.length by omega)] at h2
    rw [← Array.getElem?_toList, h2, List.getD_eq_getElem?_getD, List.getElem?_eq_getElem (show j < l.length by omega)]
    rfl
  · rw [Array.toList_setIfInBounds, Nat.mul_one, List.take_set, ht, List.map_set]
theorem own_other {W : World} {b n g j : Nat} {v u : Value} {xs : List Value} (h : W.ownsRow b 5 1 v n xs) (hg : g < b) : (W.setCell ⟨g, j, none⟩ u).ownsRow b 5 1 v n xs := by
  obtain ⟨h1, h2 | ⟨g', cap, cur, rfl, hb, hg', h3⟩⟩ := h
  · exact ⟨h1, .inl h2⟩
  · exact ⟨h1, .inr ⟨g', cap, cur, rfl, hb, heap_other hg' (by omega), h3⟩⟩
theorem Bys.of_prefix {W : World} {g : Nat} {l m : List Int} {t : TypeId} (hg : W.heap[g]? = some (.cells (irow .u8 (l ++ m)) t (0, 0))) (hl : l.length ≤ 9223372036854775807) (hz : ∀ z ∈ l, 0 ≤ z ∧ z < 256) (cap : Nat) : Bys W (.slice (some ⟨g, 0, none⟩) l.length cap) l := by
  refine ⟨_, cap, rfl, hl, fun j hj => ⟨g, 0, rfl, lt_of_row hg, ?_⟩, hz⟩
  rw [Nat.zero_add, irow_cell hg (by rw [List.length_append]; omega), getD_append_lt _ _ _ hj]
/-- The first k of a, then what is left of c. -/
def mix (a c : List Int) (k : Nat) : List Int := a.take k ++ c.drop k
theorem mix_zero (a c : List Int) : mix a c 0 = c := by simp [mix]
theorem mix_all (a c : List Int) (h : a.length = c.length) : mix a c c.length = a := by
  unfold mix
  rw [← h, List.take_length, h, List.drop_length, List.append_nil]
theorem mix_length (a c : List Int) (k : Nat) (h : a.length = c.length) (hk : k ≤ c.length) : (mix a c k).length = c.length := by simp [mix]; omega
theorem mix_get (a c : List Int) (k : Nat) (h : a.length = c.length) (hk : k < c.length) : (mix a c k).getD k 0 = c.getD k 0 := by
  rw [List.getD_eq_getElem?_getD, List.getD_eq_getElem?_getD, mix, List.getElem?_append_right (by rw [List.length_take]; omega), List.getElem?_drop, List.length_take, show k + (k - min k a.length) = k by omega]
theorem mix_set (a c : List Int) (k : Nat) (h : a.length = c.length) (hk : k < c.length) : (mix a c k).set k (a.getD k 0) = mix a c (k + 1) := by
  apply List.ext_getElem?
  intro j
  have h1 : (a.take k).length = k := by simp; omega
  have h2 : (a.take (k + 1)).length = k + 1 := by simp; omega
  unfold mix
  rw [List.getElem?_set]
  by_cases e : k = j
  · subst e
    rw [if_pos rfl, if_pos (by simp; omega), List.getElem?_append_left (by omega), List.getElem?_take_of_lt (by omega)]
    rw [List.getD_eq_getElem?_getD, List.getElem?_eq_getElem (by omega)]
    rfl
  · rw [if_neg e]
    by_cases hj : j < k
    · rw [List.getElem?_append_left (by omega), List.getElem?_append_left (by omega), List.getElem?_take_of_lt hj, List.getElem?_take_of_lt (by omega)]
    · rw [List.getElem?_append_right (by omega), List.getElem?_append_right (by omega), List.getElem?_drop, List.getElem?_drop, h1, h2]
      congr 1
      omega
def xl (bs : List Int) (x : Int) : List Int := bs.map fun z => bits .xor .u8 z x
theorem xl_len (bs : List Int) (x : Int) : (xl bs x).length = bs.length := by simp [xl]
theorem bits8_bd (a b : Int) : 0 ≤ bits .xor .u8 a b ∧ bits .xor .u8 a b < 256 := by
  unfold bits
  simp only [IntKind.wrap, IntKind.bits, IntKind.signed]
  constructor
  · exact Int.emod_nonneg _ (by decide)
  · exact Int.emod_lt_of_pos _ (by decide)
theorem xl_bd (bs : List Int) (x : Int) : ∀ z ∈ xl bs x, 0 ≤ z ∧ z < 256 := by
  intro z hz
  obtain ⟨y, _, rfl⟩ := List.mem_map.1 hz
  exact bits8_bd _ _
theorem xl_get (bs : List Int) (x : Int) (k : Nat) (hk : k < bs.length) : (xl bs x).getD k 0 = bits .xor .u8 (bs.getD k 0) x := by
  rw [List.getD_eq_getElem?_getD, List.getD_eq_getElem?_getD, xl, List.getElem?_map, List.getElem?_eq_getElem hk]
  rfl
theorem eqK (l m : List Int) (hl : l.length = 64) (hm : m.length = 64) (w : World) : (Op.equalIn 10000 26 (.agg (irow .u8 l)) (.agg (irow .u8 m))).run Try.prog w = .ok (decide (l = m)) w := by
  obtain ⟨i0, hi, _⟩ := info8
  exact run_equal_ints w Try.underlying26 Try.underlying5 hi (by kernel_rfl) l m hl hm
theorem eqSum (bs : List Int) (W : World) : (Op.equalIn 10000 26 (.agg (irow .u8 (sumL bs))) (.agg (irow .u8 (sumL bs)))).run Try.prog W = .ok true W := by
  rw [eqK _ _ (sumL_len bs) (sumL_len bs)]; simp

end Go.Proofs.Ytelildhjkknaiaa.Wi


namespace Go.Proofs.Ytelildhjkknaiaa.Wi
open Go Go.RowKit Go.Sort
attribute [local go_sem] setCell_drewN alloc_drewN

theorem bWide (cs : Array Value) (W : World) : (Instr.box 26 (.agg cs)).run Try.prog W = .ok (.pointer (some ⟨W.heap.size, 0, none⟩)) (W.alloc (.cells cs 26)) := by kernel_rfl
/-- Two digits a byte. -/
def hxd (l : List Int) : Nat → ByteArray
  | 0 => ⟨#[]⟩
  | k + 1 => hxd l k ++ (⟨#[48, 49, 50, 51, 52, 53, 54, 55, 56, 57, 97, 98, 99, 100, 101, 102]⟩ : ByteArray).extract (l.getD k 0 / 16).toNat (l.getD k 0 / 16 + 1).toNat ++ (⟨#[48, 49, 50, 51, 52, 53, 54, 55, 56, 57, 97, 98, 99, 100, 101, 102]⟩ : ByteArray).extract (l.getD k 0 % 16).toNat (l.getD k 0 % 16 + 1).toNat
theorem hxd_size (l : List Int) (hz : ∀ z ∈ l, 0 ≤ z ∧ z < 256) : ∀ k, (hxd l k).size = 2 * k
  | 0 => rfl
  | k + 1 => by
    have hb := getD_bd hz k
    have h16 : (⟨#[48, 49, 50, 51, 52, 53, 54, 55, 56, 57, 97, 98, 99, 100, 101, 102]⟩ : ByteArray).size = 16 := rfl
    rw [hxd, ByteArray.size_append, ByteArray.size_append, ByteArray.size_extract, ByteArray.size_extract, hxd_size l hz k, h16]
    omega
theorem hx_cut (i : Int) (h0 : 0 ≤ i) (h1 : i < 16) (W : World) : (Instr.sliceAt 9 (.string (⟨#[48, 49, 50, 51, 52, 53, 54, 55, 56, 57, 97, 98, 99, 100, 101, 102]⟩ : ByteArray)) (some (.int .u8 i)) (some (.int .u8 (i + 1))) none).run Try.prog W = .ok (.string ((⟨#[48, 49, 50, 51, 52, 53, 54, 55, 56, 57, 97, 98, 99, 100, 101, 102]⟩ : ByteArray).extract i.toNat (i + 1).toNat)) W := by
  rw [run_sliceAt_string (P := Try.prog) W 9 _ _ _ _ Try.underlying9]
  exact run_slice_string W 9 _ .u8 .u8 i (i + 1) Try.underlying9 h0 (by omega) (by show i + 1 ≤ 16; omega)
theorem hx_size (i : Int) (h0 : 0 ≤ i) (h1 : i < 16) : ((⟨#[48, 49, 50, 51, 52, 53, 54, 55, 56, 57, 97, 98, 99, 100, 101, 102]⟩ : ByteArray).extract i.toNat (i + 1).toNat).size = 1 := by
  rw [ByteArray.size_extract]
  show min (i + 1).toNat 16 - i.toNat = 1
  omega
set_option maxRecDepth 100000 in
set_option maxHeartbeats 4000000 in
theorem l_digits (l : List Int) (hl : l.length = 64) (hz : ∀ z ∈ l, 0 ≤ z ∧ z < 256) : Gives 32 #[.agg (irow .u8 l)] (.string (hxd l 64)) := by
  intro w
  have r0 := hp1_0 w (.cells (irow .u8 l) 26)
  have hw : Below w.heap.size w (w.alloc (.cells (irow .u8 l) 26)) := (Below.refl _ _).alloc (Nat.le_refl _) _
  go_enter Try.func32, Try.ntmps32
  go_wp2_with (first | (refine wpList_box rfl 26 _ rfl _ rfl (bWide _) ?_) | fail)
  generalize w.alloc (.cells (irow .u8 l) 26) = w0 at *
  go_loopw [3, 4] (fun v i wr => ∃ k : Nat, k ≤ 64 ∧ v = .string (hxd l k) ∧ i = .int .i64 k ∧ wr.heap[w.heap.size]? = some (.cells (irow .u8 l) 26 (0, 0)) ∧ Below w.heap.size w wr) (fun _ i _ => 64 - (intOf i).toNat)
  case atStart => exact ⟨0, by omega, rfl, rfl, r0, hw⟩
  case round =>
    clear r0 hw
    obtain ⟨k, hk, rfl, rfl, r0, hw⟩ := hrel
    by_cases hlt : k < 64
    · have hd : decide ((k : Int) < 64) = true := by simp; omega
      have c := irow_cell r0 (j := k) (by omega)
      have hb := getD_bd hz k
      have hsz := hxd_size l hz k
      have hn : hxd l (k + 1) = hxd l k ++ (⟨#[48, 49, 50, 51, 52, 53, 54, 55, 56, 57, 97, 98, 99, 100, 101, 102]⟩ : ByteArray).extract (l.getD k 0 / 16).toNat (l.getD k 0 / 16 + 1).toNat ++ (⟨#[48, 49, 50, 51, 52, 53, 54, 55, 56, 57, 97, 98, 99, 100, 101, 102]⟩ : ByteArray).extract (l.getD k 0 % 16).toNat (l.getD k 0 % 16 + 1).toNat := rfl
      have s1 := hx_cut (l.getD k 0 / 16) (by omega) (by omega)
      have s2 := hx_cut (l.getD k 0 % 16) (by omega) (by omega)
      have z1 := hx_size (l.getD k 0 / 16) (by omega) (by omega)
      have z2 := hx_size (l.getD k 0 % 16) (by omega) (by omega)
      generalize hn1 : hxd l (k + 1) = X1 at *
      replace hn1 := hide hn1
      generalize hxd l k = X at *
      generalize l.getD k 0 = z at *
      generalize (⟨#[48, 49, 50, 51, 52, 53, 54, 55, 56, 57, 97, 98, 99, 100, 101, 102]⟩ : ByteArray).extract (z / 16).toNat (z / 16 + 1).toNat = E1 at *
      generalize (⟨#[48, 49, 50, 51, 52, 53, 54, 55, 56, 57, 97, 98, 99, 100, 101, 102]⟩ : ByteArray).extract (z % 16).toNat (z % 16 + 1).toNat = E2 at *
      have y1 : ¬ 9223372036854775807 < X.size + E1.size := by omega
      have y2 : ¬ 9223372036854775807 < X.size + E1.size + E2.size := by omega
      clear hsz z1 z2
      replace hn := hide hn
      go_wp2
      have k0 : ∀ p : Regrown, (grow (redrawn wr p.d) p.os).cell? ⟨w.heap.size, k, none⟩ = some (.int .u8 z) := fun p => cell_regrown (c) p.d p.os
      refine wp_region_quiet_below (by kernel_rfl) (by kernel_rfl) ?_
      go_big_quiet_step (fail)
      go_big_quiet_step (fail)
      go_big_quiet_step (fail)
      go_big_quiet_step (fail)
      go_big_quiet_step (fail)
      go_big_quiet_step (fail)
      go_big_quiet_step (fail)
      go_big_quiet_step (fail)
      go_big_quiet_step (fail)
      go_big_quiet_step (fail)
      go_big_quiet_step (fail)
      go_big_quiet_step (fail)
      go_big_quiet_step (fail)
      go_big_quiet_step (fail)
      go_big_quiet_step (fail)
      go_big_quiet_step (fail)
      go_big_quiet_step (fail)
      go_big_quiet_step (fail)
      go_big_quiet_step (fail)
      go_big_quiet_step (fail)
      go_big_quiet_step (fail)
      go_big_quiet_step (fail)
      go_big_quiet_step (fail)
      go_big_quiet_step (fail)
      refine wpQuiet_nil ?_
      rintro _ ⟨p, rfl⟩
      have hb := below_regrown wr p.d p.os
      generalize grow (redrawn wr p.d) p.os = w1 at *
      clear k0
      replace r0 := keep hb r0
      replace hw := Below.after hw hb
      clear hb

      go_wp2
      refine ⟨⟨k + 1, by omega, by rw [hn1.out, hn.out], by go_num, r0, hw⟩, ?_⟩
      simp [intOf]; omega
    · obtain rfl : k = 64 := by omega
      have hd : decide ((64 : Int) < 64) = false := by decide
      go_wp2
      go_ret
      exact ⟨rfl, hw⟩
/-- A list of eighty words is a block's. -/
def ckW (b L : List Int) : Bool := (List.range 80).all fun t => decide (L.getD t 0 = if t < 16 then wrd b t else IntKind.u64.wrap (IntKind.u64.wrap (IntKind.u64.wrap (lo1 (L.getD (t - 2) 0) + L.getD (t - 7) 0) + lo0 (L.getD (t - 15) 0)) + L.getD (t - 16) 0))
theorem wds_of {b L : List Int} (h : ckW b L = true) : ∀ t, t < 80 → wds b t = L.getD t 0 := by
  have hc : ∀ t, t < 80 → L.getD t 0 = if t < 16 then wrd b t else IntKind.u64.wrap (IntKind.u64.wrap (IntKind.u64.wrap (lo1 (L.getD (t - 2) 0) + L.getD (t - 7) 0) + lo0 (L.getD (t - 15) 0)) + L.getD (t - 16) 0) := fun t ht => of_decide_eq_true (List.all_eq_true.1 h t (List.mem_range.2 ht))
  intro t
  induction t using Nat.strongRecOn with
  | ind t ih =>
    intro ht
    rw [hc t ht]
    by_cases h16 : t < 16
    · rw [wds_lo b h16, if_pos h16]
    · rw [wds_hi b h16, if_neg h16, ih (t - 2) (by omega) (by omega), ih (t - 7) (by omega) (by omega), ih (t - 15) (by omega) (by omega), ih (t - 16) (by omega) (by omega)]
theorem rs_congr {h : List Int} {W V : Nat → Int} : ∀ t, (∀ j, j < t → W j = V j) → rs h W t = rs h V t
  | 0, _ => rfl
  | t + 1, e => by rw [rs, rs, rs_congr t (fun j hj => e j (by omega)), e t (by omega)]
theorem blk_of {h b L v : List Int} (hw : ckW b L = true) (hs : sums h (rs h (fun t => L.getD t 0) 80).list 8 = v) : blk h b = v := by
  rw [blk, rs_congr 80 (fun j hj => wds_of hw j hj), hs]
theorem sum_cert (m L0 h1 out : List Int) (q : (m ++ padL m.length).length / 128 = 1) (w0 : ckW (chunk (m ++ padL m.length) 0) L0 = true) (s0 : sums sl (rs sl (fun t => L0.getD t 0) 80).list 8 = h1) (o : byts h1 = out) : sumL m = out := by
  rw [sumL, sumW, q, fol, fol, blk_of w0 s0, o]
set_option maxRecDepth 100000 in
theorem v_nil : sumL [] = [207, 131, 225, 53, 126, 239, 184, 189, 241, 84, 40, 80, 214, 109, 128, 7, 214, 32, 228, 5, 11, 87, 21, 220, 131, 244, 169, 33, 211, 108, 233, 206, 71, 208, 209, 60, 93, 133, 242, 176, 255, 131, 24, 210, 135, 126, 236, 47, 99, 185, 49, 189, 71, 65, 122, 129, 165, 56, 50, 122, 249, 39, 218, 62] := sum_cert [] [9223372036854775808, 0, 0, 0, 0, 0, 0, 0, 0, 0, 0, 0, 0, 0, 0, 0, 9223372036854775808, 0, 144132780261900292, 0, 1155173304454086688, 0, 9224535324720890176, 9223372036854775808, 146666604812306432, 288265560523800584, 1243169432437604392, 3465519913362260064, 11692752768149889090, 4653151464457472, 15323855909384817045, 4876574312498210832, 14639603247754544148, 3434786857230368820, 9013053720714969912, 10981963730338967295, 14505461409933268600, 10568723117816178525, 51053405127713065, 7505555249610797273, 18252215520407452834, 4079059491340002047, 17873331272771716404, 18197477866010144683, 2586653930017323, 5279201199531870604, 7489938729579517538, 2581045260704602993, 309334448297401143, 3688400740553181013, 11915011874665163476, 15548373201946704186, 976836368697803132, 15440532245632154827, 13159214976914891887, 14489188410753582394, 7359474398803404219, 153235613781274047, 10975724157807346904, 12239009553022252559, 13205109041321307169, 11807957215129485051, 12027190436797570982, 16915464566074054049, 3554530596002172539, 5162489885373305514, 1980304498657416535, 2902461406060293815, 4891631205827345334, 11101613502430268959, 11718169689323905103, 18325423463113385581, 12562554357919657550, 5822938288807249808, 5798868973202240978, 9294985631150403737, 1771184806411634331, 14339725245072215721, 4516957551734913270, 15555311401511284977] [14953042807679334589, 17389568388844322823, 15429583033687545308, 9508410676032104910, 5174866029046002352, 18411586994116160559, 7185829369460390529, 11905321118701443646] [207, 131, 225, 53, 126, 239, 184, 189, 241, 84, 40, 80, 214, 109, 128, 7, 214, 32, 228, 5, 11, 87, 21, 220, 131, 244, 169, 33, 211, 108, 233, 206, 71, 208, 209, 60, 93, 133, 242, 176, 255, 131, 24, 210, 135, 126, 236, 47, 99, 185, 49, 189, 71, 65, 122, 129, 165, 56, 50, 122, 249, 39, 218, 62] (by decide +kernel) (by decide +kernel) (by decide +kernel) (by decide +kernel)
set_option maxRecDepth 100000 in
theorem v_abc : sumL [97, 98, 99] = [221, 175, 53, 161, 147, 97, 122, 186, 204, 65, 115, 73, 174, 32, 65, 49, 18, 230, 250, 78, 137, 169, 126, 162, 10, 158, 238, 230, 75, 85, 211, 154, 33, 146, 153, 42, 39, 79, 193, 168, 54, 186, 60, 35, 163, 254, 235, 189, 69, 77, 68, 35, 100, 60, 232, 14, 42, 154, 201, 79, 165, 76, 164, 159] := sum_cert [97, 98, 99] [7017280570803617792, 0, 0, 0, 0, 0, 0, 0, 0, 0, 0, 0, 0, 0, 0, 24, 7017280570803617792, 844424930132160, 762966109232037891, 13195750147587, 6097581589540473238, 54043414571793408, 1483655128544091580, 7126213039481127152, 8602118586805487511, 17389888485336023043, 14567336803169050610, 6777467420161596722, 16310457152051956578, 11476377395010010066, 12906063273572982575, 1051720670150476534, 11866753008450386212, 12477396688234164614, 4356201549416458046, 7840148015528850751, 14121359558264892382, 6614793513367853908, 4522218185451149906, 2892552721718560235, 352189473509599370, 9030584440117125351, 12607724378241962598, 829913954127880271, 12787094207806812211, 6729427763312036062, 5477573448673053883, 16621003149437336899, 16999664878006829468, 3899695832832618899, 3357496273253151093, 3682082552034448227, 11294004811417749973, 2836744397419860151, 4287662693712260952, 938603131418550565, 8445351822503640832, 13301424169519149285, 2637789678536900255, 5398300769020374814, 3226112756715261327, 12850822427266563721, 13957599002836691690, 14720324025197921979, 5807888345885282540, 6820734040768121841, 17000633838971044521, 12690899187530245291, 8675115807306831190, 14216296850786374956, 12954869667114756766, 13513824624013906744, 17743411111893162616, 13727910554596711163, 5324059115621695157, 9378356217484295577, 18299600774795048491, 5065130554155974958, 16449879781680111900, 10569647959714887634] [15974045371385084602, 14718171817514647857, 1362051152550133410, 765311659573367706, 2419164356178592168, 3943530547489205181, 4993722480620005390, 3069987439919277215] [221, 175, 53, 161, 147, 97, 122, 186, 204, 65, 115, 73, 174, 32, 65, 49, 18, 230, 250, 78, 137, 169, 126, 162, 10, 158, 238, 230, 75, 85, 211, 154, 33, 146, 153, 42, 39, 79, 193, 168, 54, 186, 60, 35, 163, 254, 235, 189, 69, 77, 68, 35, 100, 60, 232, 14, 42, 154, 201, 79, 165, 76, 164, 159] (by decide +kernel) (by decide +kernel) (by decide +kernel) (by decide +kernel)
set_option maxRecDepth 100000 in
theorem dg_1 (O : List Int) (hO : O = [207, 131, 225, 53, 126, 239, 184, 189, 241, 84, 40, 80, 214, 109, 128, 7, 214, 32, 228, 5, 11, 87, 21, 220, 131, 244, 169, 33, 211, 108, 233, 206, 71, 208, 209, 60, 93, 133, 242, 176, 255, 131, 24, 210, 135, 126, 236, 47, 99, 185, 49, 189, 71, 65, 122, 129, 165, 56, 50, 122, 249, 39, 218, 62]) : Gives 32 #[.agg (irow .u8 O)] (.string (⟨([99, 102, 56, 51, 101, 49, 51, 53, 55, 101, 101, 102, 98, 56, 98, 100, 102, 49, 53, 52, 50, 56, 53, 48, 100, 54, 54, 100, 56, 48, 48, 55, 100, 54, 50, 48, 101, 52, 48, 53, 48, 98, 53, 55, 49, 53, 100, 99, 56, 51, 102, 52, 97, 57, 50, 49, 100, 51, 54, 99, 101, 57, 99, 101].append [52, 55, 100, 48, 100, 49, 51, 99, 53, 100, 56, 53, 102, 50, 98, 48, 102, 102, 56, 51, 49, 56, 100, 50, 56, 55, 55, 101, 101, 99, 50, 102, 54, 51, 98, 57, 51, 49, 98, 100, 52, 55, 52, 49, 55, 97, 56, 49, 97, 53, 51, 56, 51, 50, 55, 97, 102, 57, 50, 55, 100, 97, 51, 101]).toArray⟩ : ByteArray)) := by
  have h := l_digits O (by rw [hO]; rfl) (by rw [hO]; decide)
  have e : hxd O 64 = (⟨([99, 102, 56, 51, 101, 49, 51, 53, 55, 101, 101, 102, 98, 56, 98, 100, 102, 49, 53, 52, 50, 56, 53, 48, 100, 54, 54, 100, 56, 48, 48, 55, 100, 54, 50, 48, 101, 52, 48, 53, 48, 98, 53, 55, 49, 53, 100, 99, 56, 51, 102, 52, 97, 57, 50, 49, 100, 51, 54, 99, 101, 57, 99, 101].append [52, 55, 100, 48, 100, 49, 51, 99, 53, 100, 56, 53, 102, 50, 98, 48, 102, 102, 56, 51, 49, 56, 100, 50, 56, 55, 55, 101, 101, 99, 50, 102, 54, 51, 98, 57, 51, 49, 98, 100, 52, 55, 52, 49, 55, 97, 56, 49, 97, 53, 51, 56, 51, 50, 55, 97, 102, 57, 50, 55, 100, 97, 51, 101]).toArray⟩ : ByteArray) := by
    rw [hO]
    apply ByteArray.ext
    decide +kernel
  rw [e] at h
  exact h
set_option maxRecDepth 100000 in
theorem dg_2 (O : List Int) (hO : O = [221, 175, 53, 161, 147, 97, 122, 186, 204, 65, 115, 73, 174, 32, 65, 49, 18, 230, 250, 78, 137, 169, 126, 162, 10, 158, 238, 230, 75, 85, 211, 154, 33, 146, 153, 42, 39, 79, 193, 168, 54, 186, 60, 35, 163, 254, 235, 189, 69, 77, 68, 35, 100, 60, 232, 14, 42, 154, 201, 79, 165, 76, 164, 159]) : Gives 32 #[.agg (irow .u8 O)] (.string (⟨([100, 100, 97, 102, 51, 53, 97, 49, 57, 51, 54, 49, 55, 97, 98, 97, 99, 99, 52, 49, 55, 51, 52, 57, 97, 101, 50, 48, 52, 49, 51, 49, 49, 50, 101, 54, 102, 97, 52, 101, 56, 57, 97, 57, 55, 101, 97, 50, 48, 97, 57, 101, 101, 101, 101, 54, 52, 98, 53, 53, 100, 51, 57, 97].append [50, 49, 57, 50, 57, 57, 50, 97, 50, 55, 52, 102, 99, 49, 97, 56, 51, 54, 98, 97, 51, 99, 50, 51, 97, 51, 102, 101, 101, 98, 98, 100, 52, 53, 52, 100, 52, 52, 50, 51, 54, 52, 51, 99, 101, 56, 48, 101, 50, 97, 57, 97, 99, 57, 52, 102, 97, 53, 52, 99, 97, 52, 57, 102]).toArray⟩ : ByteArray)) := by
  have h := l_digits O (by rw [hO]; rfl) (by rw [hO]; decide)
  have e : hxd O 64 = (⟨([100, 100, 97, 102, 51, 53, 97, 49, 57, 51, 54, 49, 55, 97, 98, 97, 99, 99, 52, 49, 55, 51, 52, 57, 97, 101, 50, 48, 52, 49, 51, 49, 49, 50, 101, 54, 102, 97, 52, 101, 56, 57, 97, 57, 55, 101, 97, 50, 48, 97, 57, 101, 101, 101, 101, 54, 52, 98, 53, 53, 100, 51, 57, 97].append [50, 49, 57, 50, 57, 57, 50, 97, 50, 55, 52, 102, 99, 49, 97, 56, 51, 54, 98, 97, 51, 99, 50, 51, 97, 51, 102, 101, 101, 98, 98, 100, 52, 53, 52, 100, 52, 52, 50, 51, 54, 52, 51, 99, 101, 56, 48, 101, 50, 97, 57, 97, 99, 57, 52, 102, 97, 53, 52, 99, 97, 52, 57, 102]).toArray⟩ : ByteArray) := by
    rw [hO]
    apply ByteArray.ext
    decide +kernel
  rw [e] at h
  exact h
theorem Bys.of_rowF {W : World} {g n : Nat} {l : List Int} {t : TypeId} {fr : Nat × Nat} (hg : W.heap[g]? = some (.cells (irow .u8 l) t fr)) (hl : l.length ≤ 9223372036854775807) (hz : ∀ z ∈ l, 0 ≤ z ∧ z < 256) (hn : l.length = n) {cap : Nat} : Bys W (.slice (some ⟨g, 0, none⟩) n cap) l := by
  subst hn
  refine ⟨_, cap, rfl, hl, fun j hj => ⟨g, 0, rfl, lt_of_row hg, ?_⟩, hz⟩
  rw [Nat.zero_add, cell_of_row _ _ _ _ _ _ hg, irow_get _ _ _ hj]
set_option maxRecDepth 100000 in
set_option maxHeartbeats 4000000 in
theorem vec_any (w : World) : Calls Try.prog 10 #[] w fun e w' => e = .returned (.bool true) ∧ Below w.heap.size w w' := by
  obtain ⟨E, eE⟩ : ∃ X : List Int, X = [] := ⟨_, rfl⟩
  obtain ⟨N, eN⟩ : ∃ X : List Int, X = [97, 98, 99] := ⟨_, rfl⟩
  have d1 := dg_1 (sumL E) (by rw [eE]; exact v_nil)
  have d2 := dg_2 (sumL N) (by rw [eN]; exact v_abc)
  have hE : Bys w (.slice none 0 0) E := by rw [eE]; exact ⟨none, 0, rfl, by decide, fun j hj => by simp at hj, by simp⟩
  have lE : E.length ≤ 4611686018427387000 := by rw [eE]; simp
  have zN : ∀ z ∈ N, 0 ≤ z ∧ z < 256 := by rw [eN]; decide
  have lN : N.length = 3 := by rw [eN]; rfl
  have cA := a_sum E w (.slice none 0 0) hE (fun a l c h => by cases h; exact Nat.le_refl _) lE
  have hrow : irow .u8 N = #[.int .u8 97, .int .u8 98, .int .u8 99] := by rw [eN]; rfl
  clear eE eN hE lE
  go_enter Try.func10, Try.ntmps10
  go_wp2_with (fail)
  refine cA.mono ?_
  rintro e_ w2 ⟨rfl, hw⟩
  clear cA
  go_wp2_with (fail)
  refine (d1.at _).mono ?_
  rintro e_ w3 ⟨rfl, hb⟩
  replace hw := Below.after hw hb
  clear hb d1
  have hcv : (convert 22 22 (.slice (some ⟨w3.heap.size, 0, none⟩) 3 3)).run Try.prog (w3.alloc (.cells #[.int .u8 97, .int .u8 98, .int .u8 99] 5)) = .ok (.slice (some ⟨w3.heap.size, 0, none⟩) 3 3) (w3.alloc (.cells #[.int .u8 97, .int .u8 98, .int .u8 99] 5 (3, 4))) := Go.Lib.run_convert_bytes_const w3 22 5 #[.int .u8 97, .int .u8 98, .int .u8 99] 3 3 Try.underlying22 Try.underlying5
  have r1 : (w3.alloc (.cells #[.int .u8 97, .int .u8 98, .int .u8 99] 5 (3, 4))).heap[w3.heap.size]? = some (.cells (irow .u8 N) 5 (3, 4)) := by rw [hrow]; exact hp1_0 w3 _
  have hb : Below w3.heap.size w3 (w3.alloc (.cells #[.int .u8 97, .int .u8 98, .int .u8 99] 5 (3, 4))) := (Below.refl _ _).alloc (Nat.le_refl _) _
  clear hrow
  go_wp2_with (fail)
  clear hcv
  generalize (w3.alloc (.cells #[.int .u8 97, .int .u8 98, .int .u8 99] 5 (3, 4))) = w4 at *
  refine (a_sum N w4 _ (Bys.of_rowF r1 (by omega) zN lN) (fun a l c h => by cases h; exact Nat.le_refl _) (by omega)).mono ?_
  rintro e_ w5 ⟨rfl, hb5⟩
  replace hw := Below.after (Below.after hw hb) hb5
  clear hb hb5 r1
  go_wp2_with (fail)
  refine (d2.at _).mono ?_
  rintro e_ w6 ⟨rfl, hb⟩
  replace hw := Below.after hw hb
  go_wp2
  go_ret
  exact ⟨rfl, hw⟩

end Go.Proofs.Ytelildhjkknaiaa.Wi

