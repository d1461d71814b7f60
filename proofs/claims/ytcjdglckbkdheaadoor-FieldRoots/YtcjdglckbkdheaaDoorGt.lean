import Derived.Test.YtcjdglckbkdheaaDoorProg
import Derived.WalkKit
import Derived.WalkSpells
import Derived.WalkLawsBesides
import Derived.Lib.QuietBelow
import Derived.BigQuiet
import Derived.Test.YtcjdglckbkdheaaDoorKa
import Derived.Test.YtcjdglckbkdheaaDoorGp
namespace Go.Proofs.YtcjdglckbkdheaaDoor
open Go.RowKit Go.Sort
attribute [local go_sem] setCell_drewN alloc_drewN


/-- A row of bytes. -/
def brow (l : List Int) : Array Value := (l.map fun z => Value.int .u8 z).toArray
theorem brow_get (l : List Int) (k : Nat) (hk : k < l.length) : (brow l)[k]? = some (.int .u8 (l.getD k 0)) := by
  simp [brow, List.getElem?_eq_getElem hk, List.getD_eq_getElem?_getD]
theorem brow_cell {W : World} {g : Nat} {l : List Int} {t : TypeId} (hg : W.heap[g]? = some (.cells (brow l) t (0, 0))) {k : Nat} (hk : k < l.length) : W.cell? ⟨g, k, none⟩ = some (.int .u8 (l.getD k 0)) := by
  simp only [World.cell?, hg]
  simpa using brow_get l k hk
theorem brow_frozen {W : World} {g : Nat} {l : List Int} {t : TypeId} (hg : W.heap[g]? = some (.cells (brow l) t (0, 0))) (k : Nat) : W.frozen? ⟨g, k, none⟩ = false := by
  simp [World.frozen?, hg]
theorem brow_set {W : World} {g : Nat} {l : List Int} {t : TypeId} (hg : W.heap[g]? = some (.cells (brow l) t (0, 0))) (k : Nat) (z : Int) : (W.setCell ⟨g, k, none⟩ (.int .u8 z)).heap[g]? = some (.cells (brow (l.set k z)) t (0, 0)) := by
  rw [heap_setCell_same W g k _ t _ hg]
  simp [brow, List.map_set]
theorem Bys.of_row {W : World} {g : Nat} {l : List Int} {t : TypeId} (hg : W.heap[g]? = some (.cells (brow l) t (0, 0))) (hl : l.length ≤ 9223372036854775807) (hz : ∀ z ∈ l, 0 ≤ z ∧ z < 256) (cap : Nat) : Bys W (.slice (some ⟨g, 0, none⟩) l.length cap) l := by
  refine ⟨_, cap, rfl, hl, fun j hj => ⟨g, 0, rfl, lt_of_row hg, ?_⟩, hz⟩
  rw [Nat.zero_add]
  exact brow_cell hg hj
def fillL (k : Nat) : List Int := List.replicate k 255 ++ List.replicate (32 - k) 0
theorem fillL_set : ∀ k, k < 32 → (fillL k).set k 255 = fillL (k + 1) := by decide
theorem fillL_255 : ∀ z ∈ fillL 32, z = 255 := by decide
theorem fillL_len : ∀ k, k ≤ 32 → (fillL k).length = 32 := by intro k hk; simp [fillL]; omega


set_option maxHeartbeats 1000000 in
theorem half_walk (w : World) : Calls Tryd.prog 41 #[] w fun e w' => ∃ ev, e = .returned ev ∧ Bys w' ev (((fillL 32).set 0 (246)).set 31 63) ∧ Below w.heap.size w w' := by
  have hmk : (Instr.makeSlice 32 (.int .i64 32) (.int .i64 32)).run Tryd.prog w = .ok (.slice (some ⟨w.heap.size, 0, none⟩) 32 32) (w.alloc (.cells (brow (fillL 0)) 5)) := by kernel_rfl
  go_enter Tryd.func41, Tryd.ntmps41
  go_wp2
  go_loopw [2] (fun i wr => ∃ k : Nat, k ≤ 32 ∧ i = .int .i64 k ∧ wr.heap[w.heap.size]? = some (.cells (brow (fillL k)) 5 (0, 0)) ∧ Below w.heap.size w wr) (fun i _ => 32 - (intOf i).toNat)
  case atStart => exact ⟨0, by omega, rfl, hp1_0 w _, (Below.refl _ _).alloc (Nat.le_refl _) _⟩
  case round =>
    obtain ⟨k, hk, rfl, r0, hw⟩ := hrel
    by_cases hlt : k < 32
    · have hd : decide ((k : Int) < 32) = true := by simp; omega
      have hc := brow_cell r0 (k := k) (by rw [fillL_len k hk]; omega)
      have hf := brow_frozen r0 k
      go_wp2
      go_roundw
      case rel => exact ⟨k + 1, by omega, by go_num, by rw [← fillL_set k hlt]; exact brow_set r0 k 255, hw.setCell (Nat.le_refl _) _⟩
      case measure => simp [intOf]; omega
    · obtain rfl : k = 32 := by omega
      have hd : decide ((32 : Int) < 32) = false := by decide
      have hc := brow_cell r0 (k := 0) (by decide)
      have hf := brow_frozen r0 0
      have r1 := brow_set r0 0 (246)
      have hc1 := brow_cell r1 (k := 31) (by rw [List.length_set]; decide)
      have hf1 := brow_frozen r1 31
      have r2 := brow_set r1 31 63
      have hlen : (((fillL 32).set 0 (246)).set 31 63).length = 32 := by rw [List.length_set, List.length_set]; rfl
      have hB := Bys.of_row r2 (by rw [hlen]; decide) (by
        intro z hz
        rcases List.mem_or_eq_of_mem_set hz with hz | rfl
        · rcases List.mem_or_eq_of_mem_set hz with hz | rfl
          · rw [fillL_255 z hz]; decide
          · omega
        · decide) 32
      rw [hlen] at hB
      clear r1 r2 hlen
      go_wp2
      go_ret
      exact ⟨_, rfl, hB, (hw.setCell (Nat.le_refl _) _).setCell (Nat.le_refl _) _⟩

end Go.Proofs.YtcjdglckbkdheaaDoor

