import Derived.Test.YtelildhjkknaiaaProg
import Derived.WalkKit
import Derived.WalkSpells
import Derived.WalkLawsBesides
import Derived.Lib.QuietBelow
import Derived.BigQuiet
import Derived.Test.YtelildhjkknaiaaS0
namespace Go.Proofs.Ytelildhjkknaiaa.Wi
open Go Go.RowKit Go.Sort
attribute [local go_sem] setCell_drewN alloc_drewN

/-- How long a slice is. -/
def slen : Value → Nat
  | .slice _ l _ => l
  | _ => 0
theorem slen_own {W : World} {b : Nat} {T : TypeId} {sz : Nat} {v : Value} {n : Nat} {xs : List Value} (h : W.ownsRow b T sz v n xs) : ∃ ao cap, v = .slice ao n cap := by
  obtain ⟨_, ⟨rfl, rfl⟩ | ⟨g, cap, cur, rfl, _⟩⟩ := h
  · exact ⟨_, _, rfl⟩
  · exact ⟨_, _, rfl⟩
set_option maxRecDepth 100000 in
theorem info8 : ∃ i, Try.prog.info? 5 = some i ∧ i.zero = some (.int .u8 0) ∧ i.size = 1 ∧ i.bytes = 1 := ⟨_, rfl, rfl, rfl, rfl⟩
/-- The beginning of the padding, by its length. -/
theorem pad_first (n : Nat) : (padL n).take 1 = [128] := by
  have hb := plen_bd n
  obtain ⟨m, hm⟩ : ∃ m, plen n = m + 1 := ⟨plen n - 1, by omega⟩
  simp [padL, padP, hm, List.range_succ_eq_map]
theorem pad_get (n j : Nat) (hj : j < plen n) : (padL n)[j]? = some (if j = 0 then 128 else if plen n - 16 ≤ j then pbit n (plen n - 1 - j) else 0) := by
  have hb := plen_bd n
  simp only [padL, padP, List.getElem?_map, List.getElem?_range hj, Option.map_some]
  congr 1
  split
  · rfl
  · by_cases h : plen n - 16 ≤ j
    · rw [if_pos h, if_pos (by omega)]
    · rw [if_neg h, if_neg (by omega)]
theorem pad_hi (n : Nat) (hn : n < 18446744073709551616) (i : Nat) (h : 9 ≤ i) : pbit n i = 0 := by
  unfold pbit
  have e : 2 ^ (8 * i) = 2 ^ (8 * 9) * 2 ^ (8 * (i - 9)) := by rw [← Nat.pow_add]; congr 1; omega
  have h1 : 8 * n / 2 ^ (8 * i) = 0 := by
    rw [e, ← Nat.div_div_eq_div_mul, show 8 * n / 2 ^ (8 * 9) = 0 by omega, Nat.zero_div]
  rw [h1]
  rfl
theorem take_next {α : Type} (l : List α) (k : Nat) (x : α) (h : l[k]? = some x) : l.take k ++ [x] = l.take (k + 1) := by
  rw [List.take_add_one, h]; rfl
theorem new_cell (wr : World) (x : Int) : ∀ j u, [Value.int .u8 x][j]? = some u → (wr.alloc (.cells #[.int .u8 x] 5)).cell? ((⟨wr.heap.size, 0, none⟩ : Addr).add j) = some u := by
  intro j u hu
  have hj : j = 0 := by
    have := (List.getElem?_eq_some_iff.1 hu).1
    simp at this
    exact this
  subst hj
  simp at hu
  subst hu
  rw [addr_add]
  have hg : (wr.alloc (.cells #[.int .u8 x] 5)).heap[wr.heap.size]? = some (.cells #[.int .u8 x] 5 (0, 0)) := hp1_0 wr _
  simp only [World.cell?, hg]
  rfl
set_option maxHeartbeats 2000000 in
theorem r_pad (n : Nat) (hn : n < 18446744073709551616) (w : World) : Calls Try.prog 18 #[.int .u64 (n : Int)] w fun e w' => ∃ v, e = .returned v ∧ w'.ownsRow w.heap.size 5 1 v (plen n) ((padL n).map (Value.int .u8)) ∧ Below w.heap.size w w' := by
  have hpb := plen_bd n
  obtain ⟨i0, hi, hz0, hz1, hz2⟩ := info8
  have hown0 : (w.alloc (.cells #[.int .u8 128] 5)).ownsRow w.heap.size 5 1 (.slice (some ⟨w.heap.size, 0, none⟩) 1 1) 1 (((padL n).take 1).map (Value.int .u8)) := by
    rw [pad_first]
    refine ⟨rfl, .inr ⟨w.heap.size, 1, #[.int .u8 128], rfl, Nat.le_refl _, hp1_0 w _, Nat.le_refl _, by decide, rfl, rfl⟩⟩
  have HW : Below w.heap.size w (w.alloc (.cells #[.int .u8 128] 5)) := (Below.refl _ _).alloc (Nat.le_refl _) _
  go_enter Try.func18, Try.ntmps18
  go_wp2
  generalize w.alloc (.cells #[.int .u8 128] 5) = w0 at *
  go_loopw [3] (fun v wr => ∃ k : Nat, 1 ≤ k ∧ k ≤ plen n - 16 ∧ wr.ownsRow w.heap.size 5 1 v k (((padL n).take k).map (Value.int .u8)) ∧ Below w.heap.size w wr) (fun v _ => 144 - slen v)
  case atStart => exact ⟨1, by omega, by omega, hown0, HW⟩
  case round =>
    clear hown0 HW
    obtain ⟨k, hk0, hk, hown, hw⟩ := hrel
    obtain ⟨ao, cap, rfl⟩ := slen_own hown
    by_cases hlt : k < plen n - 16
    · have hd : ((n : Int) % 128 + (k : Int) + 16) % 128 ≠ 0 := by unfold plen at hlt; omega
      have hown_ := hown.alloc (.cells #[.int .u8 0] 5)
      go_wp2_with (at_builtin; refine wpList_append_own _ rfl (.tmp 16) (.tmp 17) 22 rfl w.heap.size 5 i0 (.int .u8 0) 1 1 Try.underlying22 hi hz0 hz1 hz2 rfl (by decide) (.slice ao k cap) k _ rfl hown_ ⟨wr.heap.size, 0, none⟩ 1 1 [.int .u8 0] rfl rfl (new_cell wr 0) (by simp [Value.oneCell']) (by unfold maxLen; omega) (by omega) (by rw [size_alloc1]; exact Nat.le_succ_of_le hw.size) ?_)
      intro v' w2 hown2 hgrow _
      replace hw := (hw.alloc hw.size _).grown hgrow (by rw [size_alloc1]; exact Nat.le_succ_of_le hw.size) (fun k h => (hown_.lt k h).1)
      clear hown hown_ hgrow
      obtain ⟨ao', cap', rfl⟩ := slen_own hown2

      replace hown2 : w2.ownsRow w.heap.size 5 1 (.slice ao' (k + 1) cap') (k + 1) (((padL n).take (k + 1)).map (Value.int .u8)) := by
        rw [← take_next _ _ (0 : Int) (by rw [pad_get n k (by omega), if_neg (by omega), if_neg (by omega)]), List.map_append, List.map_take]; exact hown2
      go_wp2
      refine ⟨⟨k + 1, by omega, by omega, hown2, hw⟩, ?_⟩
      simp [slen]; omega
    · obtain rfl : k = plen n - 16 := by omega
      have hd : ((n : Int) % 128 + ((plen n - 16 : Nat) : Int) + 16) % 128 = 0 := by unfold plen; omega
      have hlo : ∀ k : Nat, k < 8 → IntKind.u64.wrap ((n : Int) * 8) / 2 ^ (8 * k) % 256 = pbit n k := fun k hk => by
        rw [IntKind.wrap_u64, Int.mul_comm]
        exact lo_bit n k hk
      have hhi : (n : Int) / 2305843009213693952 = pbit n 8 := by
        have := hi_bit n 0
        simp at this
        omega
      have hzr := pad_hi n hn
      have hget := pad_get n
      have hpl : (padL n).length = plen n := padP_len n 8
      generalize hm : plen n - 16 = m at *
      go_wp2
      go_loopw [3, 4] (fun v i wr => ∃ k : Nat, k ≤ 7 ∧ i = .int .i64 (k : Int) ∧ wr.ownsRow w.heap.size 5 1 v (m + k) (((padL n).take (m + k)).map (Value.int .u8)) ∧ Below w.heap.size w wr) (fun _ i _ => 7 - (intOf i).toNat)
      case atStart => exact ⟨0, by omega, rfl, hown, hw⟩
      case round =>
        clear hown hw hd
        obtain ⟨k, hk, rfl, hown, hw⟩ := hrel
        obtain ⟨ao2, cap2, rfl⟩ := slen_own hown
        by_cases hlt : k < 7
        · have hd : decide ((k : Int) < 7) = true := by simp; omega
          have hg := hget (m + k) (by omega)
          rw [if_neg (by omega), if_pos (by omega), hzr _ (by omega)] at hg
          clear hlo hhi hget hzr
          have hown_ := hown.alloc (.cells #[.int .u8 0] 5)
          go_wp2_with (at_builtin; refine wpList_append_own _ rfl (.tmp 23) (.tmp 24) 22 rfl w.heap.size 5 i0 (.int .u8 0) 1 1 Try.underlying22 hi hz0 hz1 hz2 rfl (by decide) (.slice ao2 (m + k) cap2) (m + k) _ rfl hown_ ⟨wr.heap.size, 0, none⟩ 1 1 [.int .u8 0] rfl rfl (new_cell wr 0) (by simp [Value.oneCell']) (by unfold maxLen; omega) (by omega) (by rw [size_alloc1]; exact Nat.le_succ_of_le hw.size) ?_)
          intro v' w2 hown2 hgrow _
          replace hw := (hw.alloc hw.size _).grown hgrow (by rw [size_alloc1]; exact Nat.le_succ_of_le hw.size) (fun k h => (hown_.lt k h).1)
          clear hown hown_ hgrow
          obtain ⟨ao', cap', rfl⟩ := slen_own hown2

          replace hown2 : w2.ownsRow w.heap.size 5 1 (.slice ao' (m + k + 1) cap') (m + k + 1) (((padL n).take (m + k + 1)).map (Value.int .u8)) := by
            rw [← take_next _ _ _ hg, List.map_append, List.map_take]; exact hown2
          clear hg
          go_wp2
          refine ⟨⟨k + 1, by omega, by go_num, hown2, hw⟩, ?_⟩
          simp [intOf]; omega
        · obtain rfl : k = 7 := by omega
          have hd : decide ((7 : Int) < 7) = false := by decide
          have hg := hget (m + 7) (by omega)
          rw [if_neg (by omega), if_pos (by omega), show plen n - 1 - (m + 7) = 8 by omega] at hg
          have hb8 := pbit_bd n 8
          have hown_ := hown.alloc (.cells #[.int .u8 (pbit n 8)] 5)
          go_wp2_with (at_builtin; refine wpList_append_own _ rfl (.tmp 26) (.tmp 30) 22 rfl w.heap.size 5 i0 (.int .u8 0) 1 1 Try.underlying22 hi hz0 hz1 hz2 rfl (by decide) (.slice ao2 (m + 7) cap2) (m + 7) _ rfl hown_ ⟨wr.heap.size, 0, none⟩ 1 1 [.int .u8 (pbit n 8)] rfl rfl (new_cell wr (pbit n 8)) (by simp [Value.oneCell']) (by unfold maxLen; omega) (by omega) (by rw [size_alloc1]; exact Nat.le_succ_of_le hw.size) ?_)
          intro v' w2 hown2 hgrow _
          replace hw := (hw.alloc hw.size _).grown hgrow (by rw [size_alloc1]; exact Nat.le_succ_of_le hw.size) (fun k h => (hown_.lt k h).1)
          clear hown hown_ hgrow
          obtain ⟨ao', cap', rfl⟩ := slen_own hown2

          replace hown2 : w2.ownsRow w.heap.size 5 1 (.slice ao' (m + 7 + 1) cap') (m + 7 + 1) (((padL n).take (m + 7 + 1)).map (Value.int .u8)) := by
            rw [← take_next _ _ _ hg, List.map_append, List.map_take]; exact hown2
          obtain ⟨q, hq⟩ : ∃ q, q = m + 7 + 1 := ⟨_, rfl⟩
          rw [← hq] at hown2 ⊢
          have hq2 : plen n = q + 8 := by omega
          have hq3 : 0 < q := by omega
          rw [hm.symm] at hget
          clear hg hhi hq hzr hd hm
          go_wp2
          go_loopw [3, 5] (fun v i wr => ∃ k : Nat, k ≤ 8 ∧ i = .int .i64 (k : Int) ∧ wr.ownsRow w.heap.size 5 1 v (q + k) (((padL n).take (q + k)).map (Value.int .u8)) ∧ Below w.heap.size w wr) (fun _ i _ => 8 - (intOf i).toNat)
          case atStart => exact ⟨0, by omega, rfl, hown2, hw⟩
          case round =>
            clear hown2 hw
            obtain ⟨k, hk, rfl, hown, hw⟩ := hrel
            obtain ⟨ao3, cap3, rfl⟩ := slen_own hown
            by_cases hlt : k < 8
            · have hd : decide ((k : Int) < 8) = true := by simp; omega
              have hb := hlo (7 - k) (by omega)
              rw [show 8 * (7 - k) = 56 - 8 * k by omega] at hb
              have hg := hget (q + k) (by omega)
              rw [if_neg (by omega), if_pos (by omega), show plen n - 1 - (q + k) = 7 - k by omega] at hg
              have hbb := pbit_bd n (7 - k)
              generalize pbit n (7 - k) = z at *
              clear hlo hget
              have hown_ := hown.alloc (.cells #[.int .u8 z] 5)
              go_wp2_with (at_builtin; refine wpList_append_own _ rfl (.tmp 36) (.tmp 44) 22 rfl w.heap.size 5 i0 (.int .u8 0) 1 1 Try.underlying22 hi hz0 hz1 hz2 rfl (by decide) (.slice ao3 (q + k) cap3) (q + k) _ rfl hown_ ⟨wr.heap.size, 0, none⟩ 1 1 [.int .u8 z] rfl rfl (new_cell wr z) (by simp [Value.oneCell']) (by unfold maxLen; omega) (by omega) (by rw [size_alloc1]; exact Nat.le_succ_of_le hw.size) ?_)
              intro v' w2 hown2 hgrow _
              replace hw := (hw.alloc hw.size _).grown hgrow (by rw [size_alloc1]; exact Nat.le_succ_of_le hw.size) (fun k h => (hown_.lt k h).1)
              clear hown hown_ hgrow
              obtain ⟨ao', cap', rfl⟩ := slen_own hown2

              replace hown2 : w2.ownsRow w.heap.size 5 1 (.slice ao' (q + k + 1) cap') (q + k + 1) (((padL n).take (q + k + 1)).map (Value.int .u8)) := by
                rw [← take_next _ _ _ hg, List.map_append, List.map_take]; exact hown2
              clear hg hb
              go_wp2
              refine ⟨⟨k + 1, by omega, by go_num, hown2, hw⟩, ?_⟩
              simp [intOf]; omega
            · obtain rfl : k = 8 := by omega
              have hd : decide ((8 : Int) < 8) = false := by decide
              have e8 : q + 8 = plen n := by omega
              have et : (padL n).take (q + 8) = padL n := List.take_of_length_le (by omega)
              rw [et] at hown
              clear hlo hget
              go_wp2
              go_ret
              exact ⟨_, rfl, by rw [← e8]; exact hown, hw⟩

end Go.Proofs.Ytelildhjkknaiaa.Wi


namespace Go.Proofs.Ytelildhjkknaiaa.Wi
open Go Go.RowKit Go.Sort
attribute [local go_sem] setCell_drewN alloc_drewN

/-- Bytes as a word, the highest first. -/
def hor (l : List Int) (o : Nat) : Nat → Int
  | 0 => 0
  | j + 1 => hor l o j * 256 + l.getD (o + j) 0
theorem getD_bd {bs : List Int} (hz : ∀ z ∈ bs, 0 ≤ z ∧ z < 256) (j : Nat) : 0 ≤ bs.getD j 0 ∧ bs.getD j 0 < 256 := by
  rw [List.getD_eq_getElem?_getD]
  by_cases h : j < bs.length
  · rw [List.getElem?_eq_getElem h]; exact hz _ (List.getElem_mem _)
  · rw [List.getElem?_eq_none (by omega)]; exact ⟨by decide, by decide⟩
theorem hor_bd {l : List Int} (hz : ∀ z ∈ l, 0 ≤ z ∧ z < 256) (o : Nat) : ∀ j, 0 ≤ hor l o j ∧ hor l o j < 256 ^ j
  | 0 => by rw [hor]; decide
  | j + 1 => by
    have h := hor_bd hz o j
    have hb := getD_bd hz (o + j)
    rw [hor, Int.pow_succ]
    omega
theorem hor_small {l : List Int} (hz : ∀ z ∈ l, 0 ≤ z ∧ z < 256) (o j : Nat) (hj : j < 8) : 0 ≤ hor l o j ∧ hor l o j < 72057594037927936 := by
  have h := hor_bd hz o j
  have h2 : (256 : Int) ^ j ≤ 72057594037927936 := by
    have : ∀ j : Nat, j < 8 → (256 : Int) ^ j ≤ 72057594037927936 := by decide
    exact this j hj
  omega
theorem or_byte (a b : Int) (ha : 0 ≤ a ∧ a < 72057594037927936) (hb : 0 ≤ b ∧ b < 256) : bits .or .u64 (a * 256) b = a * 256 + b := by
  obtain ⟨a, rfl⟩ := Int.eq_ofNat_of_zero_le ha.1
  obtain ⟨b, rfl⟩ := Int.eq_ofNat_of_zero_le hb.1
  have e : (a : Int) * 256 = ((a * 256 : Nat) : Int) := by omega
  rw [e, bits_or_u64_nat _ _ (by omega) (by omega)]
  have h := Nat.shiftLeft_add_eq_or_of_lt (i := 8) (b := b) (by omega) a
  rw [Nat.shiftLeft_eq] at h
  rw [show a * 256 ||| b = a * 2 ^ 8 ||| b from rfl, ← h]
  omega
def wrd (b : List Int) (t : Nat) : Int := hor b (8 * t) 8
/-- The words of a block. -/
def wds (b : List Int) (t : Nat) : Int := if t < 16 then wrd b t else IntKind.u64.wrap (IntKind.u64.wrap (IntKind.u64.wrap (lo1 (wds b (t - 2)) + wds b (t - 7)) + lo0 (wds b (t - 15))) + wds b (t - 16))
termination_by t
theorem wds_lo (b : List Int) {t : Nat} (h : t < 16) : wds b t = wrd b t := by rw [wds, if_pos h]
theorem wds_hi (b : List Int) {t : Nat} (h : ¬ t < 16) : wds b t = IntKind.u64.wrap (IntKind.u64.wrap (IntKind.u64.wrap (lo1 (wds b (t - 2)) + wds b (t - 7)) + lo0 (wds b (t - 15))) + wds b (t - 16)) := by rw [wds, if_neg h]
theorem wrap_bd (x : Int) : 0 ≤ IntKind.u64.wrap x ∧ IntKind.u64.wrap x < 18446744073709551616 := by rw [IntKind.wrap_u64]; omega
theorem wds_bd {b : List Int} (hz : ∀ z ∈ b, 0 ≤ z ∧ z < 256) (t : Nat) : 0 ≤ wds b t ∧ wds b t < 18446744073709551616 := by
  by_cases h : t < 16
  · rw [wds_lo b h]
    exact hor_bd hz (8 * t) 8
  · rw [wds_hi b h]; exact wrap_bd _
/-- The first t of 80, then zeros. -/
def prt (W : Nat → Int) (t : Nat) : List Int := (List.range 80).map fun j => if j < t then W j else 0
theorem prt_len (W : Nat → Int) (t : Nat) : (prt W t).length = 80 := by simp [prt]
theorem prt_get (W : Nat → Int) (t : Nat) {j : Nat} (h : j < t) (h2 : j < 80) : (prt W t).getD j 0 = W j := by
  simp [prt, List.getD_eq_getElem?_getD, h2, h]
theorem prt_none (W : Nat → Int) (t : Nat) {j : Nat} (h : ¬ j < t) (h2 : j < 80) : (prt W t).getD j 0 = 0 := by
  simp [prt, List.getD_eq_getElem?_getD, h2, h]
theorem prt_set (W : Nat → Int) (t : Nat) (h : t < 80) : (prt W t).set t (W t) = prt W (t + 1) := by
  apply List.ext_getElem?
  intro j
  rw [List.getElem?_set]
  by_cases e : t = j
  · subst e
    rw [if_pos rfl, if_pos (by rw [prt_len]; exact h)]
    simp [prt, h]
  · rw [if_neg e]
    simp only [prt, List.getElem?_map]
    by_cases hj : j < 80
    · simp only [List.getElem?_range hj, Option.map_some]
      by_cases h1 : j < t
      · rw [if_pos h1, if_pos (by omega)]
      · rw [if_neg h1, if_neg (by omega)]
    · rw [List.getElem?_eq_none (by simp; omega)]; rfl
theorem prt_zero (W : Nat → Int) : prt W 0 = zr 80 := rfl
set_option maxHeartbeats 1000000 in
theorem a_word (g off cap : Nat) (l : List Int) (t : TypeId) (W : World) (hg : W.heap[g]? = some (.cells (irow .u8 l) t (0, 0))) (hl : off + 8 ≤ l.length) (hz : ∀ z ∈ l, 0 ≤ z ∧ z < 256) : Calls Try.prog 42 #[.slice (some ⟨g, off, none⟩) 8 cap] W fun e w' => e = .returned (.int .u64 (hor l off 8)) ∧ Below W.heap.size W w' := by
  go_enter Try.func42, Try.ntmps42
  go_wp2
  go_loopw [3, 8] (fun v i wr => ∃ k : Nat, k ≤ 8 ∧ v = .int .u64 (hor l off k) ∧ i = .int .i64 k ∧ wr = W) (fun _ i _ => 8 - (intOf i).toNat)
  case atStart => exact ⟨0, by omega, rfl, rfl, rfl⟩
  case round =>
    obtain ⟨k, hk, rfl, rfl, rfl⟩ := hrel
    by_cases hlt : k < 8
    · have hd : decide ((k : Int) < 8) = true := by simp; omega
      have c := irow_cell hg (j := off + k) (by omega)
      have hs := hor_small hz off k hlt
      have hb := getD_bd hz (off + k)
      have ho := or_byte _ _ hs hb
      have hn : hor l off (k + 1) = hor l off k * 256 + l.getD (off + k) 0 := rfl
      rw [← hn] at ho
      generalize hn1 : hor l off (k + 1) = h1 at *
      replace hn1 := hide hn1
      generalize hor l off k = h0 at *
      generalize l.getD (off + k) 0 = z at *
      clear hn
      go_wp2
      refine ⟨⟨k + 1, by omega, ?_, by go_num, trivial⟩, ?_⟩
      · rw [hn1.out]
      · simp [intOf]; omega
    · obtain rfl : k = 8 := by omega
      have hd : decide ((8 : Int) < 8) = false := by decide
      go_wp2
      go_ret
      exact ⟨rfl, Below.refl _ _⟩
theorem slice8 (g k : Nat) (hk : k < 16) (W : World) : (Instr.sliceAt 32 (.pointer (some ⟨g, 0, none⟩)) (some (.int .i64 (8 * (k : Int)))) (some (.int .i64 (8 * (k : Int) + 8))) (some (.int .i64 (8 * (k : Int) + 8)))).run Try.prog W = .ok (.slice (some ⟨g, 8 * k, none⟩) 8 8) W := by
  have ht : Try.prog.underlying 32 = some (.array (Try.prog.arrayLen 32) (Try.prog.elem 32)) := by kernel_rfl
  have hn : Try.prog.arrayLen 32 = 128 := by kernel_rfl
  have hs : (sizeOf (Try.prog.elem 32)).run Try.prog W = .ok 1 W := by kernel_rfl
  rw [run_sliceAt_array_lhm W _ _ ht .i64 .i64 .i64 _ _ _ (by omega) (by omega) (by omega) (by rw [hn]; omega), hs]
  show Result.ok (slicedAt _ _ _ _ 1) W = _
  have e1 : (8 * (k : Int)).toNat = 8 * k := by omega
  have e2 : (8 * (k : Int) + 8).toNat = 8 * k + 8 := by omega
  rw [e1, e2, slicedAt, if_neg (by omega), addr_add]
  simp
theorem info57 (W : Nat → Int) (t : Nat) : (Try.prog.info? 60).map (·.size) = some (irow .u64 (prt W t)).size := by
  rw [irow_size, prt_len]; kernel_rfl
theorem fit57 (W V : Nat → Int) (t u : Nat) : (irow .u64 (prt W t)).size = (irow .u64 (prt V u)).size := by
  rw [irow_size, irow_size, prt_len, prt_len]
set_option maxRecDepth 100000 in
set_option maxHeartbeats 4000000 in
theorem a_spread (l : List Int) (hl : l.length = 128) (hz : ∀ z ∈ l, 0 ≤ z ∧ z < 256) : Gives 34 #[.agg (irow .u8 l)] (.agg (irow .u64 (prt (wds l) 80))) := by
  intro w
  have R0 := hp3_0 w (.cells (irow .u8 l) 32) (.cells (irow .u64 (zr 80)) 60) (.cells (irow .u64 (zr 80)) 60)
  have R1 := hp3_1 w (.cells (irow .u8 l) 32) (.cells (irow .u64 (zr 80)) 60) (.cells (irow .u64 (zr 80)) 60)
  have R2 := hp3_2 w (.cells (irow .u8 l) 32) (.cells (irow .u64 (zr 80)) 60) (.cells (irow .u64 (zr 80)) 60)
  have HW : Below w.heap.size w (((w.alloc (.cells (irow .u8 l) 32)).alloc (.cells (irow .u64 (zr 80)) 60)).alloc (.cells (irow .u64 (zr 80)) 60)) := ((((Below.refl _ _).alloc (Nat.le_refl _) _).alloc (by simp) _).alloc (by simp; omega) _)

  go_enter Try.func34, Try.ntmps34
  go_wp2_with (first | (refine wpList_box rfl 32 _ rfl _ rfl (bp128 _) ?_) | (refine wpList_alloc rfl 60 rfl (irow .u64 (zr 80)) zw80 ?_) | fail)
  generalize (((w.alloc (.cells (irow .u8 l) 32)).alloc (.cells (irow .u64 (zr 80)) 60)).alloc (.cells (irow .u64 (zr 80)) 60)) = w0 at *
  rw [← prt_zero (wds l)] at R1 R2
  go_loopw [10] (fun i wr => ∃ k : Nat, k ≤ 16 ∧ i = .int .i64 k ∧ wr.heap[w.heap.size]? = some (.cells (irow .u8 l) 32 (0, 0)) ∧ wr.heap[w.heap.size + 1]? = some (.cells (irow .u64 (prt (wds l) 0)) 60 (0, 0)) ∧ wr.heap[w.heap.size + 1 + 1]? = some (.cells (irow .u64 (prt (wds l) k)) 60 (0, 0)) ∧ Below w.heap.size w wr) (fun i _ => 16 - (intOf i).toNat)
  case atStart => exact ⟨0, by omega, rfl, R0, R1, R2, HW⟩
  case round =>
    clear R0 R1 R2 HW
    obtain ⟨k, hk, rfl, r0, r1, r2, hw⟩ := hrel
    by_cases hlt : k < 16
    · have hd : decide ((k : Int) < 16) = true := by simp; omega
      have hsl := slice8 w.heap.size k hlt wr
      have hcall := fun cap => a_word _ (8 * k) cap l _ wr r0 (by omega) hz
      have e : hor l (8 * k) 8 = wds l k := by rw [wds_lo _ hlt]; rfl
      rw [e] at hcall
      clear e
      have hset := prt_set (wds l) k (by omega)
      have hpl := prt_len (wds l) k
      generalize wds l k = z at *
      go_wp2_with (fail)
      refine (hcall _).mono ?_
      rintro e w1 ⟨rfl, hb⟩
      replace r0 := keep hb r0
      replace r1 := keep hb r1
      replace r2 := keep hb r2
      replace hw := Below.after hw hb
      have cz := irow_cell r2 (j := k) (by omega)
      have hf := row_frozen r2 k
      clear hcall hb
      go_wp2
      go_roundw
      case rel => exact ⟨k + 1, by omega, by go_num, heap_other r0 (by omega), heap_other r1 (by omega), by rw [← hset]; exact irow_set r2 k z, hw.setCell (show w.heap.size ≤ w.heap.size + 1 + 1 by omega) _⟩
      case measure => simp [intOf]; omega
    · obtain rfl : k = 16 := by omega
      have hd : decide ((16 : Int) < 16) = false := by decide
      go_wp2
      go_loopw [5] (fun i wr => ∃ k : Nat, 16 ≤ k ∧ k ≤ 80 ∧ i = .int .i64 k ∧ wr.heap[w.heap.size]? = some (.cells (irow .u8 l) 32 (0, 0)) ∧ wr.heap[w.heap.size + 1]? = some (.cells (irow .u64 (prt (wds l) 0)) 60 (0, 0)) ∧ wr.heap[w.heap.size + 1 + 1]? = some (.cells (irow .u64 (prt (wds l) k)) 60 (0, 0)) ∧ Below w.heap.size w wr) (fun i _ => 80 - (intOf i).toNat)
      case atStart => exact ⟨16, by omega, by omega, rfl, r0, r1, r2, hw⟩
      case round =>
        clear r0 r1 r2 hw hd
        obtain ⟨k, hk0, hk, rfl, r0, r1, r2, hw⟩ := hrel
        by_cases hlt : k < 80
        · have hd : decide ((k : Int) < 80) = true := by simp; omega
          have d15 := irow_cell r2 (j := k - 15) (by rw [prt_len]; omega)
          have d2 := irow_cell r2 (j := k - 2) (by rw [prt_len]; omega)
          rw [prt_get _ _ (by omega) (by omega)] at d15 d2
          have c7 := a_right (wds l (k - 15)) 1 (by decide) (by decide)
          have c18 := a_right (wds l (k - 15)) 8 (by decide) (by decide)
          have c17 := a_right (wds l (k - 2)) 19 (by decide) (by decide)
          have c19 := a_right (wds l (k - 2)) 61 (by decide) (by decide)
          have hset := prt_set (wds l) k (by omega)
          have hpl := prt_len (wds l) k
          have e := wds_hi l (t := k) (by omega)
          have e7 := prt_get (wds l) k (j := k - 7) (by omega) (by omega)
          have e16 := prt_get (wds l) k (j := k - 16) (by omega) (by omega)
          unfold lo0 lo1 at e
          generalize rot (wds l (k - 15)) 1 = q7 at *
          generalize rot (wds l (k - 15)) 8 = q18 at *
          generalize rot (wds l (k - 2)) 19 = q17 at *
          generalize rot (wds l (k - 2)) 61 = q19 at *
          generalize wds l (k - 15) = x15 at *
          generalize wds l (k - 2) = x2 at *
          generalize wds l (k - 7) = x7 at *
          generalize wds l (k - 16) = x16 at *
          generalize wds l k = z at *
          replace e := hide e
          replace hset := hide hset
          go_wp2
          have k15 : ∀ p : Regrown, (grow (redrawn wr p.d) p.os).cell? ⟨w.heap.size + 1 + 1, k - 15, none⟩ = some (.int .u64 x15) := fun p => cell_regrown (d15) p.d p.os
          have k2 : ∀ p : Regrown, (grow (redrawn wr p.d) p.os).cell? ⟨w.heap.size + 1 + 1, k - 2, none⟩ = some (.int .u64 x2) := fun p => cell_regrown (d2) p.d p.os
          refine wp_region_quiet_below (by kernel_rfl) (by kernel_rfl) ?_
          go_big_quiet_step (fail)
          go_big_quiet_step (fail)
          go_big_quiet_step (fail)
          go_big_quiet_step (fail)
          go_big_quiet_step (fail)
          go_big_quiet_step (fail)
          go_big_quiet_step (fail)
          go_big_quiet_step (fail)
          go_big_quiet_step (fail)
          go_big_quiet_step (fail)
          refine wpQuiet_nil ?_
          rintro _ ⟨p, rfl⟩
          have hb := below_regrown wr p.d p.os
          generalize grow (redrawn wr p.d) p.os = w1 at *
          clear k15 k2
          replace r0 := keep hb r0
          replace r1 := keep hb r1
          replace r2 := keep hb r2
          replace hw := Below.after hw hb
          clear hb

          go_wp2_with (fail)
          refine (c7.at _).mono ?_
          rintro e_ w2 ⟨rfl, hb⟩
          replace r0 := keep hb r0
          replace r1 := keep hb r1
          replace r2 := keep hb r2
          replace hw := Below.after hw hb
          clear hb

          go_wp2_with (fail)
          refine (c18.at _).mono ?_
          rintro e_ w3 ⟨rfl, hb⟩
          replace r0 := keep hb r0
          replace r1 := keep hb r1
          replace r2 := keep hb r2
          replace hw := Below.after hw hb
          clear hb

          go_wp2_with (fail)
          refine (c17.at _).mono ?_
          rintro e_ w4_ ⟨rfl, hb⟩
          replace r0 := keep hb r0
          replace r1 := keep hb r1
          replace r2 := keep hb r2
          replace hw := Below.after hw hb
          clear hb

          go_wp2_with (fail)
          refine (c19.at _).mono ?_
          rintro e_ w5 ⟨rfl, hb⟩
          replace r0 := keep hb r0
          replace r1 := keep hb r1
          replace r2 := keep hb r2
          replace hw := Below.after hw hb
          clear hb

          have d7 := irow_cell r2 (j := k - 7) (by omega)
          have d16 := irow_cell r2 (j := k - 16) (by omega)
          rw [e7] at d7
          rw [e16] at d16
          clear e7 e16
          go_wp2
          have k7 : ∀ p : Regrown, (grow (redrawn w5 p.d) p.os).cell? ⟨w.heap.size + 1 + 1, k - 7, none⟩ = some (.int .u64 x7) := fun p => cell_regrown (d7) p.d p.os
          have k16 : ∀ p : Regrown, (grow (redrawn w5 p.d) p.os).cell? ⟨w.heap.size + 1 + 1, k - 16, none⟩ = some (.int .u64 x16) := fun p => cell_regrown (d16) p.d p.os
          refine wp_region_tail (C := fun w' => ∃ p : Regrown, w' = grow (redrawn w5 p.d) p.os) 15 _ rfl rfl rfl (by kernel_rfl) (by kernel_rfl) (by kernel_rfl) (by kernel_rfl) ⟨⟨w5.drawn + 1, #[]⟩, by rw [grow_empty]; rfl⟩ ?_
          dsimp only [List.set, idle]
          go_big_quiet_step (fail)
          go_big_quiet_step (fail)
          go_big_quiet_step (fail)
          go_big_quiet_step (fail)
          go_big_quiet_step (fail)
          go_big_quiet_step (fail)
          go_big_quiet_step (fail)
          go_big_quiet_step (fail)
          go_big_quiet_step (fail)
          go_big_quiet_step (fail)
          go_big_quiet_step (fail)
          go_big_quiet_step (fail)
          go_big_quiet_step (fail)
          go_big_quiet_step (fail)
          go_big_quiet_step (fail)
          refine wpQuiet_idle rfl rfl rfl ?_
          rintro _ ⟨p, rfl⟩
          have hb := below_regrown w5 p.d p.os
          generalize grow (redrawn w5 p.d) p.os = w6 at *
          clear k7 k16
          replace r0 := keep hb r0
          replace r1 := keep hb r1
          replace r2 := keep hb r2
          replace hw := Below.after hw hb
          clear hb

          have cz := irow_cell r2 (j := k) (by omega)
          have hf := row_frozen r2 k
          go_wp2
          refine ⟨?_, ?measure⟩
          apply Exists.intro
          apply Exists.intro
          repeat apply Exists.intro
          refine ⟨?rel, rfl⟩
          case rel => exact ⟨k + 1, by omega, by omega, by go_num, heap_other r0 (by omega), heap_other r1 (by omega), by rw [← hset.out, e.out]; exact irow_set r2 k _, hw.setCell (show w.heap.size ≤ w.heap.size + 1 + 1 by omega) _⟩
          case measure => simp [intOf]; omega
        · obtain rfl : k = 80 := by omega
          have hd : decide ((80 : Int) < 80) = false := by decide
          go_wp2_with (first | (refine wpList_load_want rfl 60 _ rfl (w.heap.size + 1 + 1) rfl 60 (irow .u64 (prt (wds l) 80)) (0, 0) _ r2 Try.underlying60 rfl (info57 _ _) ?_) | (refine wpList_store_row rfl 60 _ _ rfl (w.heap.size + 1) (irow .u64 (prt (wds l) 80)) rfl rfl 60 _ r1 (info57 _ _) (fit57 _ _ _ _) (irow_one _ _) ?_) | fail)
          replace r1 := setRow_heap wr (w.heap.size + 1) _ (irow .u64 (prt (wds l) 80)) _ _ r1
          replace hw := below_setRow hw (show w.heap.size ≤ w.heap.size + 1 by omega) (irow .u64 (prt (wds l) 80))
          generalize wr.setRow (w.heap.size + 1) (irow .u64 (prt (wds l) 80)) = w9 at *
          exact bodyPost_ret (v := .agg (irow .u64 (prt (wds l) 80))) (results_cell_row Try.results34 _ _ (w.heap.size + 1) _ _ _ _ rfl r1 Try.underlying60 rfl (info57 _ _)) rfl ⟨rfl, hw⟩

end Go.Proofs.Ytelildhjkknaiaa.Wi


namespace Go.Proofs.Ytelildhjkknaiaa.Wi
open Go Go.RowKit Go.Sort
attribute [local go_sem] setCell_drewN alloc_drewN

/-- The number that the first k of the last eight bytes say. -/
def topn (n k : Nat) : Int := ((8 * n % 18446744073709551616 / 2 ^ (8 * (8 - k)) : Nat) : Int)
theorem topn_next (n k : Nat) (hk : k < 8) : topn n (k + 1) = topn n k * 256 + pbit n (7 - k) := by
  rw [← lo_bit n (7 - k) (by omega)]
  unfold topn
  rw [show 8 - (k + 1) = 7 - k by omega, show 8 * (8 - k) = 8 * (7 - k) + 8 by omega, Nat.pow_add, ← Nat.div_div_eq_div_mul]
  have e : 8 * (n : Int) % 18446744073709551616 / 2 ^ (8 * (7 - k)) = ((8 * n % 18446744073709551616 / 2 ^ (8 * (7 - k)) : Nat) : Int) := by
    rw [Int.natCast_ediv, Int.natCast_emod, Int.natCast_mul, Int.natCast_pow]; rfl
  rw [e]
  generalize 8 * n % 18446744073709551616 / 2 ^ (8 * (7 - k)) = x
  omega
theorem topn_bd (n k : Nat) (hk : k < 8) : 0 ≤ topn n k ∧ topn n k < 72057594037927936 := by
  unfold topn
  have h1 : 8 * n % 18446744073709551616 < 18446744073709551616 := Nat.mod_lt _ (by decide)
  have h2 : (256 : Nat) ≤ 2 ^ (8 * (8 - k)) := by
    have := Nat.pow_le_pow_right (n := 2) (by decide) (show 8 ≤ 8 * (8 - k) by omega)
    simpa using this
  have := Nat.div_lt_of_lt_mul (m := 8 * n % 18446744073709551616) (n := 2 ^ (8 * (8 - k))) (k := 72057594037927936) (by omega)
  exact ⟨Int.natCast_nonneg _, Int.ofNat_lt.2 this⟩
theorem pad_at (n j : Nat) (hj : j < plen n) : (padL n).getD j 0 = if j = 0 then 128 else if plen n - 16 ≤ j then pbit n (plen n - 1 - j) else 0 := by
  rw [List.getD_eq_getElem?_getD, pad_get n j hj]
  rfl
set_option maxRecDepth 100000 in
set_option maxHeartbeats 4000000 in
theorem paddings_any (n : Nat) (hn : n < 18446744073709551616) (w : World) : Calls Try.prog 9 #[.int .u64 (n : Int)] w fun e w' => e = .returned (.bool true) ∧ Below w.heap.size w w' := by
  have hpb := plen_bd n
  have cP := a_pad n hn w
  have hpl : (padL n).length = plen n := padP_len n 8
  have hm : ((n : Int) % 128 + (plen n : Int)) % 128 = 0 := by unfold plen; omega
  go_enter Try.func9, Try.ntmps9
  go_wp2_with (fail)
  refine cP.mono ?_
  rintro e_ w1 ⟨v, g, rfl, rfl, hg, r0, hw⟩
  clear cP
  have hat := pad_at n
  have c0 := irow_cell r0 (j := 0) (by omega)
  rw [hat 0 (by omega), if_pos rfl] at c0
  have ht0 : topn n 0 = 0 := by
    unfold topn
    rw [Nat.div_eq_of_lt (Nat.mod_lt _ (by decide))]
    rfl
  have ht8 : topn n 8 = 8 * (n : Int) % 18446744073709551616 := by
    unfold topn
    simp
  have hzr := pad_hi n hn
  generalize hL : plen n = L at *
  go_wp2
  clear hm
  go_loopw [4] (fun i wr' => ∃ k : Nat, 1 ≤ k ∧ k ≤ L - 9 ∧ i = .int .i64 (k : Int) ∧ wr' = w1) (fun i _ => L - (intOf i).toNat)
  case atStart => exact ⟨1, by omega, by omega, rfl, rfl⟩
  case round =>
    obtain ⟨k, hk0, hk, rfl, rfl⟩ := hrel
    by_cases hlt : k < L - 9
    · have hd : decide ((k : Int) < (L : Int) - 9) = true := by simp; omega
      have c := irow_cell r0 (j := k) (by omega)
      have c1 : (padL n).getD k 0 = 0 := by
        rw [hat k (by omega), if_neg (by omega)]
        split
        · exact hzr _ (by omega)
        · rfl
      rw [c1] at c
      clear hat c0 c1 hzr ht0 ht8
      go_wp2
      refine ⟨⟨k + 1, by omega, by omega, by go_num, trivial⟩, ?_⟩
      simp [intOf]; omega
    · obtain rfl : k = L - 9 := by omega
      have hd : decide (((L - 9 : Nat) : Int) < (L : Int) - 9) = false := by simp; omega
      clear c0
      go_wp2
      go_loopw [5, 6] (fun v i wr' => ∃ k : Nat, k ≤ 8 ∧ v = .int .u64 (topn n k) ∧ i = .int .i64 ((L - 8 + k : Nat) : Int) ∧ wr' = wr) (fun _ i _ => L - (intOf i).toNat)
      case atStart => exact ⟨0, by omega, by rw [ht0], by congr 1; omega, rfl⟩
      case round =>
        clear hd
        obtain ⟨k, hk, rfl, rfl, rfl⟩ := hrel
        by_cases hlt : k < 8
        · have hd : decide (((L - 8 + k : Nat) : Int) < (L : Int)) = true := by simp; omega
          have c := irow_cell r0 (j := L - 8 + k) (by omega)
          rw [hat (L - 8 + k) (by omega), if_neg (by omega), if_pos (by omega), show L - 1 - (L - 8 + k) = 7 - k by omega] at c
          have hor := or_byte _ _ (topn_bd n k hlt) (pbit_bd n (7 - k))
          rw [← topn_next n k hlt] at hor
          have hbd := topn_bd n k hlt
          have hbb := pbit_bd n (7 - k)
          generalize et1 : topn n (k + 1) = t1 at *
          generalize topn n k = t0 at *
          generalize pbit n (7 - k) = z at *
          clear hat hzr ht0 ht8
          have hp : L - 8 + k < L := by omega
          generalize ep : L - 8 + k = p at *
          replace et1 := hide et1
          replace ep := hide ep
          go_wp2
          refine ⟨⟨k + 1, by omega, by rw [et1.out], by congr 1; have := ep.out; omega, trivial⟩, ?_⟩
          simp [intOf]; omega
        · obtain rfl : k = 8 := by omega
          have hd : decide (((L - 8 + 8 : Nat) : Int) < (L : Int)) = false := by simp; omega
          have c := irow_cell r0 (j := L - 9) (by omega)
          rw [hat (L - 9) (by omega), if_neg (by omega), if_pos (by omega), show L - 1 - (L - 9) = 8 by omega] at c
          have hhi : (n : Int) / 2305843009213693952 = pbit n 8 := by
            have := hi_bit n 0
            simp at this
            omega
          rw [← hhi] at c
          have he : (topn n 8 == IntKind.u64.wrap ((n : Int) * 8)) = true := by rw [ht8, IntKind.wrap_u64, Int.mul_comm, beq_iff_eq]
          have he2 : topn n 8 = IntKind.u64.wrap ((n : Int) * 8) := by rw [ht8, IntKind.wrap_u64, Int.mul_comm]
          clear hat hzr ht0 ht8 hhi
          go_wp2
          go_ret
          exact ⟨rfl, hw⟩

end Go.Proofs.Ytelildhjkknaiaa.Wi

