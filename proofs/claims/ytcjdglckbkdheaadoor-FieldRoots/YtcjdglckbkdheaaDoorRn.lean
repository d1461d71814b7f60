import Derived.Test.YtcjdglckbkdheaaDoorProg
import Derived.WalkKit
import Derived.WalkSpells
import Derived.WalkLawsBesides
import Derived.Lib.QuietBelow
import Derived.BigQuiet
import Derived.Test.YtcjdglckbkdheaaDoorKa
import Derived.Test.YtcjdglckbkdheaaDoorGt
namespace Go.Proofs.YtcjdglckbkdheaaDoor
open Go.RowKit Go.Sort
attribute [local go_sem] setCell_drewN alloc_drewN


/-- The bytes of 2^k - 1. -/
def nl (k : Nat) : List Int := (List.range 32).map fun j => (((2 ^ k - 1) / 256 ^ j % 256 : Nat) : Int)
/-- What stands in the variable one ahead of round k. -/
def onev (k : Nat) : Int := if k = 0 then 1 else if k % 8 = 0 then 0 else ((2 ^ (k % 8) : Nat) : Int)
def one2 (k : Nat) : Int := ((2 ^ (k % 8) : Nat) : Int)
theorem nl_len (k : Nat) : (nl k).length = 32 := by simp [nl]
theorem nl_set : ∀ k, k < 255 → (nl k).set (k / 8) ((nl k).getD (k / 8) 0 + one2 k) = nl (k + 1) := by decide +kernel
theorem nl_bd : ∀ k, k < 255 → 0 ≤ (nl k).getD (k / 8) 0 ∧ (nl k).getD (k / 8) 0 + one2 k < 256 := by decide +kernel
theorem nl_first' : ∀ k, k < 256 → 8 ≤ k → (nl k).getD 0 0 = 255 := by decide +kernel
theorem nl_first (k : Nat) (h : 8 ≤ k) (g : k < 256) : (nl k).getD 0 0 = 255 := nl_first' k g h
theorem nl_all (k : Nat) : ∀ z ∈ nl k, 0 ≤ z ∧ z < 256 := by
  intro z hz
  unfold nl at hz
  obtain ⟨j, _, rfl⟩ := List.mem_map.1 hz
  omega
theorem nl_zero : nl 0 = fillL 0 := by decide +kernel
theorem one_next : ∀ k, k < 255 → onev (k + 1) = one2 k * 2 % 256 := by decide +kernel
theorem one_same : ∀ k, k < 255 → k % 8 ≠ 0 → onev k = one2 k := by decide +kernel
theorem one_zero : ∀ k, k % 8 = 0 → one2 k = 1 := by intro k h; simp [one2, h]
theorem one_bd : ∀ k, 1 ≤ one2 k ∧ one2 k ≤ 128 := by
  intro k
  have : k % 8 < 8 := Nat.mod_lt _ (by decide)
  unfold one2
  generalize k % 8 = r at *
  rcases (by omega : r = 0 ∨ r = 1 ∨ r = 2 ∨ r = 3 ∨ r = 4 ∨ r = 5 ∨ r = 6 ∨ r = 7) with rfl | rfl | rfl | rfl | rfl | rfl | rfl | rfl <;> decide
set_option maxHeartbeats 2000000 in
theorem number_walk (K : Nat) (less : Int) (hK8 : 8 ≤ K) (hK : K ≤ 255) (h0 : 1 ≤ less) (h1 : less ≤ 255) (w : World) : Calls Tryd.prog 61 #[.int .i64 K, .int .i64 less] w fun e w' => ∃ ev, e = .returned ev ∧ Bys w' ev ((nl K).set 0 (255 - (less - 1))) ∧ Below w.heap.size w w' := by
  have hmk : (Instr.makeSlice 32 (.int .i64 32) (.int .i64 32)).run Tryd.prog w = .ok (.slice (some ⟨w.heap.size, 0, none⟩) 32 32) (w.alloc (.cells (brow (fillL 0)) 5)) := by kernel_rfl
  go_enter Tryd.func61, Tryd.ntmps61
  go_wp2
  go_loopw [6, 7] (fun o i wr => ∃ k : Nat, k ≤ K ∧ i = .int .i64 k ∧ o = .int .u8 (onev k) ∧ wr.heap[w.heap.size]? = some (.cells (brow (nl k)) 5 (0, 0)) ∧ Below w.heap.size w wr) (fun _ i _ => K - (intOf i).toNat)
  case atStart => exact ⟨0, by omega, rfl, rfl, by rw [nl_zero]; exact hp1_0 w _, (Below.refl _ _).alloc (Nat.le_refl _) _⟩
  case round =>
    obtain ⟨k, hk, rfl, rfl, r0, hw⟩ := hrel
    by_cases hlt : k < K
    · have hd : decide ((k : Int) < (K : Int)) = true := by simp; omega
      have hc := brow_cell r0 (k := k / 8) (by rw [nl_len]; omega)
      have hf := brow_frozen r0 (k / 8)
      have hz := nl_bd k (by omega)
      have hs := nl_set k (by omega)
      have hn := one_next k (by omega)
      have ho := one_bd k
      have hsame := one_same k (by omega)
      have hone := one_zero k
      generalize (nl k).getD (k / 8) 0 = z at *
      generalize one2 k = o at *
      by_cases h8 : k % 8 = 0
      · have hd8 : ((k : Int) % 8 == 0) = true := by rw [beq_iff_eq]; omega
        have e := hone h8
        subst e
        go_wp2
        go_roundw
        case rel => exact ⟨k + 1, by omega, by go_num, by rw [hn]; rfl, by rw [← hs]; exact brow_set r0 _ _, hw.setCell (Nat.le_refl _) _⟩
        case measure => simp [intOf]; omega
      · have hd8 : ((k : Int) % 8 == 0) = false := by rw [beq_eq_false_iff_ne]; omega
        rw [hsame h8]
        go_wp2
        go_roundw
        case rel => exact ⟨k + 1, by omega, by go_num, by rw [hn], by rw [← hs]; exact brow_set r0 _ _, hw.setCell (Nat.le_refl _) _⟩
        case measure => simp [intOf]; omega
    · obtain rfl : k = K := by omega
      have hd : decide ((k : Int) < (k : Int)) = false := by simp
      have hc := brow_cell r0 (k := 0) (by rw [nl_len]; omega)
      have hf := brow_frozen r0 0
      rw [nl_first k hK8 (by omega)] at hc
      have r1 := brow_set r0 0 (255 - (less - 1))
      have hlen : ((nl k).set 0 (255 - (less - 1))).length = 32 := by rw [List.length_set, nl_len]
      have hB := Bys.of_row r1 (by rw [hlen]; decide) (by
        intro z hz
        rcases List.mem_or_eq_of_mem_set hz with hz | rfl
        · exact nl_all k z hz
        · omega) 32
      rw [hlen] at hB
      clear r1 hlen
      go_wp2
      go_ret
      exact ⟨_, rfl, hB, hw.setCell (Nat.le_refl _) _⟩

end Go.Proofs.YtcjdglckbkdheaaDoor

