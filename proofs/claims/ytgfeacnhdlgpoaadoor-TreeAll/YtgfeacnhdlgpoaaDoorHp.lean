import Derived.Test.YtgfeacnhdlgpoaaDoorProg
import Derived.WalkKit
import Derived.WalkSpells
import Derived.WalkLawsBesides
import Derived.Lib.QuietBelow
import Derived.BigQuiet
import Derived.Test.YtgfeacnhdlgpoaaDoorKa
import Derived.Test.YtgfeacnhdlgpoaaDoorHk
namespace Go.Proofs.YtgfeacnhdlgpoaaDoor
set_option maxRecDepth 100000
open Go Go.RowKit Go.Sort
attribute [local go_sem] setCell_drewN alloc_drewN

/-- How long the padding is; what it is, its last k bytes said. -/
def plen (n : Nat) : Nat := 9 + (119 - n % 64) % 64
def pbit (n i : Nat) : Int := ((8 * n % 18446744073709551616 / 2 ^ (8 * i) % 256 : Nat) : Int)
def padP (n k : Nat) : List Int := (List.range (plen n)).map fun j => if j = 0 then 128 else if plen n - k ≤ j then pbit n (plen n - 1 - j) else 0
def padL (n : Nat) : List Int := padP n 8
theorem plen_bd (n : Nat) : 9 ≤ plen n ∧ plen n ≤ 72 := by unfold plen; omega
theorem padP_len (n k : Nat) : (padP n k).length = plen n := by simp [padP]
theorem pbit_bd (n i : Nat) : 0 ≤ pbit n i ∧ pbit n i < 256 := by unfold pbit; omega
theorem padP_zero (n : Nat) : padP n 0 = (zr (plen n)).set 0 128 := by
  have hb := plen_bd n
  apply List.ext_getElem?
  intro j
  simp only [padP, zr, List.getElem?_set, List.getElem?_map, List.length_replicate, List.getElem?_replicate]
  by_cases hj : j < plen n
  · rw [List.getElem?_range hj]
    by_cases h0 : j = 0
    · subst h0; simp; omega
    · rw [if_neg (Ne.symm h0)]; simp [h0, hj]; omega
  · rw [List.getElem?_eq_none (by simp; omega)]
    simp [hj]; omega
theorem padP_set (n k : Nat) (hk : k < 8) : (padP n k).set (plen n - 1 - k) (pbit n k) = padP n (k + 1) := by
  have hb := plen_bd n
  apply List.ext_getElem?
  intro j
  rw [List.getElem?_set]
  by_cases e : plen n - 1 - k = j
  · rw [if_pos e, if_pos (by rw [padP_len]; omega)]
    subst e
    simp only [padP, List.getElem?_map, List.getElem?_range (show plen n - 1 - k < plen n by omega), Option.map_some]
    rw [if_neg (by omega), if_pos (by omega), show plen n - 1 - (plen n - 1 - k) = k by omega]
  · rw [if_neg e]
    simp only [padP, List.getElem?_map]
    by_cases hj : j < plen n
    · simp only [List.getElem?_range hj, Option.map_some]
      by_cases h0 : j = 0
      · rw [if_pos h0, if_pos h0]
      · rw [if_neg h0, if_neg h0]
        by_cases h1 : plen n - k ≤ j
        · rw [if_pos h1, if_pos (by omega)]
        · rw [if_neg h1, if_neg (by omega)]
    · rw [List.getElem?_eq_none (by simp; omega)]; rfl
theorem padL_bd (n : Nat) : ∀ z ∈ padL n, 0 ≤ z ∧ z < 256 := by
  intro z hz
  simp only [padL, padP, List.mem_map] at hz
  obtain ⟨j, _, rfl⟩ := hz
  split
  · omega
  · split
    · exact pbit_bd _ _
    · omega
theorem made_irow (n : Nat) : madeCells #[.int .u8 0] n = irow .u8 (zr n) := by
  apply Array.ext'
  simp only [madeCells, irow, zr, Array.toList_map, Array.toList_range, List.map_replicate]
  apply List.ext_getElem
  · simp
  · intro i h1 h2
    simp [Nat.mod_one]
theorem make_u64 (n : Nat) (h : n ≤ 281474976710656) (W : World) : (Instr.makeSlice 22 (.int .u64 (n : Int)) (.int .u64 (n : Int))).run Tryd.prog W = .ok (.slice (some ⟨W.heap.size, 0, none⟩) n n) (W.alloc (.cells (irow .u8 (zr n)) 5)) := by
  rw [← made_irow]
  exact run_make_row' 22 5 (.int .u8 0) 1 Tryd.underlying22 (by kernel_rfl) rfl .u64 .u64 n (by omega) (by omega) W
theorem make_i64 (n : Nat) (h : n ≤ 281474976710656) (W : World) : (Instr.makeSlice 22 (.int .i64 (n : Int)) (.int .i64 (n : Int))).run Tryd.prog W = .ok (.slice (some ⟨W.heap.size, 0, none⟩) n n) (W.alloc (.cells (irow .u8 (zr n)) 5)) := by
  rw [← made_irow]
  exact run_make_row' 22 5 (.int .u8 0) 1 Tryd.underlying22 (by kernel_rfl) rfl .i64 .i64 n (by omega) (by omega) W
set_option maxHeartbeats 2000000 in
theorem a_pad (n : Nat) (hn : n < 18446744073709551616) (w : World) : Calls Tryd.prog 65 #[.int .u64 (n : Int)] w fun e w' => ∃ v g, e = .returned v ∧ v = .slice (some ⟨g, 0, none⟩) (plen n) (plen n) ∧ w.heap.size ≤ g ∧ w'.heap[g]? = some (.cells (irow .u8 (padL n)) 5 (0, 0)) ∧ Below w.heap.size w w' := by
  have hpb := plen_bd n
  have hpl : 1 + (119 - (n : Int)) % 64 + 8 = (plen n : Int) := by unfold plen; omega
  have hmk := make_u64 (plen n) (by omega) w
  have R0 := hp1_0 w (.cells (irow .u8 (zr (plen n))) 5)
  have HW : Below w.heap.size w (w.alloc (.cells (irow .u8 (zr (plen n))) 5)) := (Below.refl _ _).alloc (Nat.le_refl _) _
  have hc0 := irow_cell R0 (j := 0) (by rw [zr_len]; omega)
  have hf0 := row_frozen R0 0
  have hps := padP_set n
  have hpp := padP_len n
  have hset0 : (irow .u8 (zr (plen n))).setIfInBounds 0 (.int .u8 128) = irow .u8 (padP n 0) := by
    rw [padP_zero n]
    simp [irow, List.map_set]
  replace hset0 := hide hset0
  clear R0 HW
  have hbit : ∀ k : Nat, k < 8 → (8 * (n : Int) % 18446744073709551616) / 2 ^ (8 * k) % 256 = pbit n k := fun k _ => by
    unfold pbit
    rw [Int.natCast_emod, Int.natCast_ediv, Int.natCast_emod, Int.natCast_mul, Int.natCast_pow]
    rfl
  generalize plen n = L at *
  go_enter Tryd.func65, Tryd.ntmps65
  go_wp2
  go_loopw [19] (fun i wr => ∃ k : Nat, k ≤ 8 ∧ i = .int .i64 k ∧ wr.heap[w.heap.size]? = some (.cells (irow .u8 (padP n k)) 5 (0, 0)) ∧ Below w.heap.size w wr) (fun i _ => 8 - (intOf i).toNat)
  case atStart => exact ⟨0, by omega, rfl, by rw [hset0.out]; exact hp1_0 w _, (Below.refl _ _).alloc (Nat.le_refl _) _⟩
  case round =>
    clear hset0 hmk hc0 hf0
    obtain ⟨k, hk, rfl, r0, hw⟩ := hrel
    by_cases hlt : k < 8
    · have hd : decide ((k : Int) < 8) = true := by simp; omega
      have hc := irow_cell r0 (j := L - 1 - k) (by rw [hpp]; omega)
      have hf := row_frozen r0 (L - 1 - k)
      have hs := hps k hlt
      have hb := hbit k hlt
      have hbb := pbit_bd n k
      clear hps hbit
      go_wp2
      refine ⟨⟨k + 1, by omega, by go_num, ?_, hw.setCell (show w.heap.size ≤ w.heap.size from Nat.le_refl _) _⟩, ?_⟩
      · rw [IntKind.wrap_u64, hb, ← hs]
        exact irow_set r0 _ _
      · simp [intOf]; omega
    · obtain rfl : k = 8 := by omega
      have hd : decide ((8 : Int) < 8) = false := by decide
      go_wp2
      go_ret
      exact ⟨_, _, rfl, rfl, Nat.le_refl _, r0, hw⟩

end Go.Proofs.YtgfeacnhdlgpoaaDoor

