import Derived.Test.YtgfeacnhdlgpoaaDoorProg
import Derived.WalkKit
import Derived.WalkSpells
import Derived.WalkLawsBesides
import Derived.Lib.QuietBelow
import Derived.BigQuiet
import Derived.Test.YtgfeacnhdlgpoaaDoorKa
import Derived.Test.YtgfeacnhdlgpoaaDoorHp
namespace Go.Proofs.YtgfeacnhdlgpoaaDoor
set_option maxRecDepth 100000
open Go Go.RowKit Go.Sort
attribute [local go_sem] setCell_drewN alloc_drewN

/-- How long a slice is. -/
def slen : Value → Nat
  | .slice _ l _ => l
  | _ => 0
theorem slen_own {W : World} {b : Nat} {T : TypeId} {sz : Nat} {v : Value} {n : Nat} {xs : List Value} (h : W.ownsRow b T sz v n xs) : ∃ ao cap, v = .slice ao n cap := by
  obtain ⟨_, ⟨rfl, rfl⟩ | ⟨g, cap, cur, rfl, _⟩⟩ := h
  · exact ⟨_, _, rfl⟩
  · exact ⟨_, _, rfl⟩
set_option maxRecDepth 100000 in
theorem info8 : ∃ i, Tryd.prog.info? 5 = some i ∧ i.zero = some (.int .u8 0) ∧ i.size = 1 ∧ i.bytes = 1 := ⟨_, rfl, rfl, rfl, rfl⟩
/-- The beginning of the padding, by its length. -/
theorem pad_first (n : Nat) : (padL n).take 1 = [128] := by
  have hb := plen_bd n
  obtain ⟨m, hm⟩ : ∃ m, plen n = m + 1 := ⟨plen n - 1, by omega⟩
  simp [padL, padP, hm, List.range_succ_eq_map]
theorem pad_get (n j : Nat) (hj : j < plen n) : (padL n)[j]? = some (if j = 0 then 128 else if plen n - 8 ≤ j then pbit n (plen n - 1 - j) else 0) := by
  simp [padL, padP, hj]
theorem take_next {α : Type} (l : List α) (k : Nat) (x : α) (h : l[k]? = some x) : l.take k ++ [x] = l.take (k + 1) := by
  rw [List.take_add_one, h]; rfl
theorem new_cell (wr : World) (x : Int) : ∀ j u, [Value.int .u8 x][j]? = some u → (wr.alloc (.cells #[.int .u8 x] 5)).cell? ((⟨wr.heap.size, 0, none⟩ : Addr).add j) = some u := by
  intro j u hu
  have hj : j = 0 := by
    have := (List.getElem?_eq_some_iff.1 hu).1
    simp at this
    exact this
  subst hj
  simp at hu
  subst hu
  rw [addr_add]
  have hg : (wr.alloc (.cells #[.int .u8 x] 5)).heap[wr.heap.size]? = some (.cells #[.int .u8 x] 5 (0, 0)) := hp1_0 wr _
  simp only [World.cell?, hg]
  rfl
set_option maxHeartbeats 2000000 in
theorem r_pad (n : Nat) (hn : n < 18446744073709551616) (w : World) : Calls Tryd.prog 59 #[.int .u64 (n : Int)] w fun e w' => ∃ v, e = .returned v ∧ w'.ownsRow w.heap.size 5 1 v (plen n) ((padL n).map (Value.int .u8)) ∧ Below w.heap.size w w' := by
  have hpb := plen_bd n
  obtain ⟨i0, hi, hz0, hz1, hz2⟩ := info8
  have hown0 : (w.alloc (.cells #[.int .u8 128] 5)).ownsRow w.heap.size 5 1 (.slice (some ⟨w.heap.size, 0, none⟩) 1 1) 1 (((padL n).take 1).map (Value.int .u8)) := by
    rw [pad_first]
    refine ⟨rfl, .inr ⟨w.heap.size, 1, #[.int .u8 128], rfl, Nat.le_refl _, hp1_0 w _, Nat.le_refl _, by decide, rfl, rfl⟩⟩
  have HW : Below w.heap.size w (w.alloc (.cells #[.int .u8 128] 5)) := (Below.refl _ _).alloc (Nat.le_refl _) _
  go_enter Tryd.func59, Tryd.ntmps59
  go_wp2
  generalize w.alloc (.cells #[.int .u8 128] 5) = w0 at *
  go_loopw [3] (fun v wr => ∃ k : Nat, 1 ≤ k ∧ k ≤ plen n - 8 ∧ wr.ownsRow w.heap.size 5 1 v k (((padL n).take k).map (Value.int .u8)) ∧ Below w.heap.size w wr) (fun v _ => 72 - slen v)
  case atStart => exact ⟨1, by omega, by omega, hown0, HW⟩
  case round =>
    clear hown0 HW
    obtain ⟨k, hk0, hk, hown, hw⟩ := hrel
    obtain ⟨ao, cap, rfl⟩ := slen_own hown
    by_cases hlt : k < plen n - 8
    · have hd : ((n : Int) % 64 + (k : Int) + 8) % 64 ≠ 0 := by unfold plen at hlt; omega
      have hown_ := hown.alloc (.cells #[.int .u8 0] 5)
      go_wp2_with (at_builtin; refine wpList_append_own _ rfl (.tmp 16) (.tmp 17) 22 rfl w.heap.size 5 i0 (.int .u8 0) 1 1 Tryd.underlying22 hi hz0 hz1 hz2 rfl (by decide) (.slice ao k cap) k _ rfl hown_ ⟨wr.heap.size, 0, none⟩ 1 1 [.int .u8 0] rfl rfl (new_cell wr 0) (by simp [Value.oneCell']) (by unfold maxLen; omega) (by omega) (by rw [size_alloc1]; exact Nat.le_succ_of_le hw.size) ?_)
      intro v' w2 hown2 hgrow _
      replace hw := (hw.alloc hw.size _).grown hgrow (by rw [size_alloc1]; exact Nat.le_succ_of_le hw.size) (fun k h => (hown_.lt k h).1)
      clear hown hown_ hgrow
      obtain ⟨ao', cap', rfl⟩ := slen_own hown2

      replace hown2 : w2.ownsRow w.heap.size 5 1 (.slice ao' (k + 1) cap') (k + 1) (((padL n).take (k + 1)).map (Value.int .u8)) := by
        rw [← take_next _ _ (0 : Int) (by rw [pad_get n k (by omega), if_neg (by omega), if_neg (by omega)]), List.map_append, List.map_take]; exact hown2
      go_wp2
      refine ⟨⟨k + 1, by omega, by omega, hown2, hw⟩, ?_⟩
      simp [slen]; omega
    · obtain rfl : k = plen n - 8 := by omega
      have hd : ((n : Int) % 64 + ((plen n - 8 : Nat) : Int) + 8) % 64 = 0 := by unfold plen; omega
      have hbit : ∀ k : Nat, k < 8 → IntKind.u64.wrap ((n : Int) * 8) / 2 ^ (8 * k) % 256 = pbit n k := fun k _ => by
        unfold pbit
        rw [IntKind.wrap_u64, Int.mul_comm, Int.natCast_emod, Int.natCast_ediv, Int.natCast_emod, Int.natCast_mul, Int.natCast_pow]
        rfl
      have hget := pad_get n
      generalize hm : plen n - 8 = m at *
      go_wp2
      go_loopw [3, 5] (fun v i wr => ∃ k : Nat, k ≤ 8 ∧ i = .int .i64 (7 - (k : Int)) ∧ wr.ownsRow w.heap.size 5 1 v (m + k) (((padL n).take (m + k)).map (Value.int .u8)) ∧ Below w.heap.size w wr) (fun _ i _ => (intOf i + 1).toNat)
      case atStart => exact ⟨0, by omega, rfl, hown, hw⟩
      case round =>
        clear hown hw hd
        obtain ⟨k, hk, rfl, hown, hw⟩ := hrel
        obtain ⟨ao2, cap2, rfl⟩ := slen_own hown
        by_cases hlt : k < 8
        · obtain ⟨j, hj⟩ : ∃ j : Nat, 7 - (k : Int) = (j : Int) := ⟨7 - k, by omega⟩
          rw [hj]
          have hjk : k + j = 7 := by omega
          have hd : decide ((0 : Int) ≤ (j : Int)) = true := by simp
          have hb := hbit j (by omega)
          have hg := hget (m + k) (by omega)
          rw [if_neg (by omega), if_pos (by omega), show plen n - 1 - (m + k) = j by omega] at hg
          clear hbit hget
          have hown_ := hown.alloc (.cells #[.int .u8 (pbit n j)] 5)
          go_wp2_with (at_builtin; refine wpList_append_own _ rfl (.tmp 25) (.tmp 32) 22 rfl w.heap.size 5 i0 (.int .u8 0) 1 1 Tryd.underlying22 hi hz0 hz1 hz2 rfl (by decide) (.slice ao2 (m + k) cap2) (m + k) _ rfl hown_ ⟨wr.heap.size, 0, none⟩ 1 1 [.int .u8 (pbit n j)] rfl rfl (new_cell wr (pbit n j)) (by simp [Value.oneCell']) (by unfold maxLen; omega) (by omega) (by rw [size_alloc1]; exact Nat.le_succ_of_le hw.size) ?_)
          intro v' w2 hown2 hgrow _
          replace hw := (hw.alloc hw.size _).grown hgrow (by rw [size_alloc1]; exact Nat.le_succ_of_le hw.size) (fun k h => (hown_.lt k h).1)
          clear hown hown_ hgrow
          obtain ⟨ao', cap', rfl⟩ := slen_own hown2

          replace hown2 : w2.ownsRow w.heap.size 5 1 (.slice ao' (m + k + 1) cap') (m + k + 1) (((padL n).take (m + k + 1)).map (Value.int .u8)) := by
            rw [← take_next _ _ _ hg, List.map_append, List.map_take]; exact hown2
          clear hg hb
          go_wp2
          refine ⟨⟨k + 1, by omega, by rw [← hj]; congr 1; omega, hown2, hw⟩, ?_⟩
          simp [intOf]
        · obtain rfl : k = 8 := by omega
          have hd : decide ((0 : Int) ≤ 7 - (8 : Int)) = false := by decide
          have e8 : m + 8 = plen n := by omega
          have et : (padL n).take (m + 8) = padL n := by
            apply List.take_of_length_le
            unfold padL
            rw [padP_len]
            omega
          rw [et] at hown
          go_wp2
          go_ret
          exact ⟨_, rfl, by rw [← e8]; exact hown, hw⟩

end Go.Proofs.YtgfeacnhdlgpoaaDoor

