import Derived.Test.YtdimjlbnjhopgaaDoorProg
import Derived.WalkKit
import Derived.WalkSpells
import Derived.WalkLawsBesides
import Derived.Lib.QuietBelow
import Derived.BigQuiet
import Derived.Test.YtdimjlbnjhopgaaDoorKa
import Derived.Test.YtdimjlbnjhopgaaDoorCb
namespace Go.Proofs.YtdimjlbnjhopgaaDoor
open Go.RowKit Go.Sort
attribute [local go_sem] setCell_drewN alloc_drewN


/-- A hexadecimal digit's number. -/
def hx (c : Int) : Int := if 97 ≤ c then c - 87 else c - 48
def isHx (c : Int) : Prop := (48 ≤ c ∧ c ≤ 57) ∨ (97 ≤ c ∧ c ≤ 102)
def sb (s : ByteArray) (j : Nat) : Int := (s.data.getD j 0).toNat
def vb (s : ByteArray) (j : Nat) : Int := hx (sb s (2 * j)) * 16 + hx (sb s (2 * j + 1))
def vrow (s : ByteArray) (k : Nat) : Array Value := ((List.range 32).map fun j => if j < k then Value.int .u8 (vb s j) else .int .u8 0).toArray
theorem vrow_zero (s : ByteArray) : vrow s 0 = #[.int .u8 0, .int .u8 0, .int .u8 0, .int .u8 0, .int .u8 0, .int .u8 0, .int .u8 0, .int .u8 0, .int .u8 0, .int .u8 0, .int .u8 0, .int .u8 0, .int .u8 0, .int .u8 0, .int .u8 0, .int .u8 0, .int .u8 0, .int .u8 0, .int .u8 0, .int .u8 0, .int .u8 0, .int .u8 0, .int .u8 0, .int .u8 0, .int .u8 0, .int .u8 0, .int .u8 0, .int .u8 0, .int .u8 0, .int .u8 0, .int .u8 0, .int .u8 0] := by rfl
theorem vrow_size (s : ByteArray) (k : Nat) : (vrow s k).size = 32 := by simp [vrow]
theorem vrow_at (s : ByteArray) (k : Nat) (h : k < 32) : (vrow s k)[k]? = some (.int .u8 0) := by simp [vrow, h]
theorem vrow_next (s : ByteArray) (k : Nat) (h : k < 32) : vrow s (k + 1) = (vrow s k).setIfInBounds k (.int .u8 (vb s k)) := by
  apply Array.ext_getElem?
  intro j
  rw [Array.getElem?_setIfInBounds]
  by_cases e : k = j
  · subst e; simp [vrow, h]
  · rw [if_neg e]
    by_cases h2 : j < 32
    · have : (j < k + 1) = (j < k) := by apply propext; omega
      simp [vrow, h2, this]
    · simp [vrow, h2]
theorem hx_bd {c : Int} (h : isHx c) : 0 ≤ hx c ∧ hx c < 16 := by
  unfold isHx at h
  unfold hx
  split <;> omega
set_option maxHeartbeats 4000000 in
theorem digit_any {c : Int} (h : isHx c) : Gives 22 #[.int .u8 c] (.int .u8 (hx c)) := by
  intro w
  unfold isHx at h
  by_cases h9 : 97 ≤ c
  · have hd : decide ((97 : Int) ≤ c) = true := decide_eq_true h9
    have e : hx c = c - 97 + 10 := by unfold hx; rw [if_pos h9]; omega
    rw [e]
    go_enter Tryd.func22, Tryd.ntmps22
    go_wp2
    go_ret
    exact ⟨rfl, Below.refl _ _⟩
  · have hd : decide ((97 : Int) ≤ c) = false := decide_eq_false h9
    have e : hx c = c - 48 := by unfold hx; rw [if_neg h9]
    rw [e]
    go_enter Tryd.func22, Tryd.ntmps22
    go_wp2
    go_ret
    exact ⟨rfl, Below.refl _ _⟩
theorem index_sb (s : ByteArray) (hs : s.size = 64) (i : Int) (j : Nat) (hi : i = (j : Int)) (hj : j < 64) (W : World) : (Instr.index 9 (.string s) (.int .i64 i)).run Tryd.prog W = .ok (.int .u8 (sb s j)) W := by
  subst hi
  rw [run_index_string W 9 s .i64 j Tryd.underlying9, dif_pos ⟨by omega, by omega⟩]
  have e : sb s j = (s[((j : Int)).toNat]'(by simp; omega)).toNat := by
    unfold sb
    have h2 : j < s.size := by omega
    simp [Array.getD, h2]
    rfl
  rw [e]
set_option maxRecDepth 100000 in
set_option maxHeartbeats 8000000 in
theorem vector_walk (s : ByteArray) (hs : s.size = 64) (hh : ∀ j, j < 64 → isHx (sb s j)) : Gives 9 #[.string s] (.agg (vrow s 32)) := by
  intro w
  have hz := key_zero
  have R0 := hp2_0 w (.cells #[.int .u8 0, .int .u8 0, .int .u8 0, .int .u8 0, .int .u8 0, .int .u8 0, .int .u8 0, .int .u8 0, .int .u8 0, .int .u8 0, .int .u8 0, .int .u8 0, .int .u8 0, .int .u8 0, .int .u8 0, .int .u8 0, .int .u8 0, .int .u8 0, .int .u8 0, .int .u8 0, .int .u8 0, .int .u8 0, .int .u8 0, .int .u8 0, .int .u8 0, .int .u8 0, .int .u8 0, .int .u8 0, .int .u8 0, .int .u8 0, .int .u8 0, .int .u8 0] 23) (.cells #[.int .u8 0, .int .u8 0, .int .u8 0, .int .u8 0, .int .u8 0, .int .u8 0, .int .u8 0, .int .u8 0, .int .u8 0, .int .u8 0, .int .u8 0, .int .u8 0, .int .u8 0, .int .u8 0, .int .u8 0, .int .u8 0, .int .u8 0, .int .u8 0, .int .u8 0, .int .u8 0, .int .u8 0, .int .u8 0, .int .u8 0, .int .u8 0, .int .u8 0, .int .u8 0, .int .u8 0, .int .u8 0, .int .u8 0, .int .u8 0, .int .u8 0, .int .u8 0] 23)
  have R1 := hp2_1 w (.cells #[.int .u8 0, .int .u8 0, .int .u8 0, .int .u8 0, .int .u8 0, .int .u8 0, .int .u8 0, .int .u8 0, .int .u8 0, .int .u8 0, .int .u8 0, .int .u8 0, .int .u8 0, .int .u8 0, .int .u8 0, .int .u8 0, .int .u8 0, .int .u8 0, .int .u8 0, .int .u8 0, .int .u8 0, .int .u8 0, .int .u8 0, .int .u8 0, .int .u8 0, .int .u8 0, .int .u8 0, .int .u8 0, .int .u8 0, .int .u8 0, .int .u8 0, .int .u8 0] 23) (.cells #[.int .u8 0, .int .u8 0, .int .u8 0, .int .u8 0, .int .u8 0, .int .u8 0, .int .u8 0, .int .u8 0, .int .u8 0, .int .u8 0, .int .u8 0, .int .u8 0, .int .u8 0, .int .u8 0, .int .u8 0, .int .u8 0, .int .u8 0, .int .u8 0, .int .u8 0, .int .u8 0, .int .u8 0, .int .u8 0, .int .u8 0, .int .u8 0, .int .u8 0, .int .u8 0, .int .u8 0, .int .u8 0, .int .u8 0, .int .u8 0, .int .u8 0, .int .u8 0] 23)
  have Hw : Below w.heap.size w ((w.alloc (.cells #[.int .u8 0, .int .u8 0, .int .u8 0, .int .u8 0, .int .u8 0, .int .u8 0, .int .u8 0, .int .u8 0, .int .u8 0, .int .u8 0, .int .u8 0, .int .u8 0, .int .u8 0, .int .u8 0, .int .u8 0, .int .u8 0, .int .u8 0, .int .u8 0, .int .u8 0, .int .u8 0, .int .u8 0, .int .u8 0, .int .u8 0, .int .u8 0, .int .u8 0, .int .u8 0, .int .u8 0, .int .u8 0, .int .u8 0, .int .u8 0, .int .u8 0, .int .u8 0] 23)).alloc (.cells #[.int .u8 0, .int .u8 0, .int .u8 0, .int .u8 0, .int .u8 0, .int .u8 0, .int .u8 0, .int .u8 0, .int .u8 0, .int .u8 0, .int .u8 0, .int .u8 0, .int .u8 0, .int .u8 0, .int .u8 0, .int .u8 0, .int .u8 0, .int .u8 0, .int .u8 0, .int .u8 0, .int .u8 0, .int .u8 0, .int .u8 0, .int .u8 0, .int .u8 0, .int .u8 0, .int .u8 0, .int .u8 0, .int .u8 0, .int .u8 0, .int .u8 0, .int .u8 0] 23)) := ((Below.refl _ _).alloc (Nat.le_refl _) _).alloc (by simp) _
  go_enter Tryd.func9, Tryd.ntmps9
  iterate 14 go_step
  generalize ((w.alloc (.cells #[.int .u8 0, .int .u8 0, .int .u8 0, .int .u8 0, .int .u8 0, .int .u8 0, .int .u8 0, .int .u8 0, .int .u8 0, .int .u8 0, .int .u8 0, .int .u8 0, .int .u8 0, .int .u8 0, .int .u8 0, .int .u8 0, .int .u8 0, .int .u8 0, .int .u8 0, .int .u8 0, .int .u8 0, .int .u8 0, .int .u8 0, .int .u8 0, .int .u8 0, .int .u8 0, .int .u8 0, .int .u8 0, .int .u8 0, .int .u8 0, .int .u8 0, .int .u8 0] 23)).alloc (.cells #[.int .u8 0, .int .u8 0, .int .u8 0, .int .u8 0, .int .u8 0, .int .u8 0, .int .u8 0, .int .u8 0, .int .u8 0, .int .u8 0, .int .u8 0, .int .u8 0, .int .u8 0, .int .u8 0, .int .u8 0, .int .u8 0, .int .u8 0, .int .u8 0, .int .u8 0, .int .u8 0, .int .u8 0, .int .u8 0, .int .u8 0, .int .u8 0, .int .u8 0, .int .u8 0, .int .u8 0, .int .u8 0, .int .u8 0, .int .u8 0, .int .u8 0, .int .u8 0] 23)) = w0 at *
  go_wp2
  go_loopw [4] (fun i wr => ∃ k : Nat, k ≤ 32 ∧ i = .int .i64 k ∧ wr.heap[w.heap.size]? = some (.cells #[.int .u8 0, .int .u8 0, .int .u8 0, .int .u8 0, .int .u8 0, .int .u8 0, .int .u8 0, .int .u8 0, .int .u8 0, .int .u8 0, .int .u8 0, .int .u8 0, .int .u8 0, .int .u8 0, .int .u8 0, .int .u8 0, .int .u8 0, .int .u8 0, .int .u8 0, .int .u8 0, .int .u8 0, .int .u8 0, .int .u8 0, .int .u8 0, .int .u8 0, .int .u8 0, .int .u8 0, .int .u8 0, .int .u8 0, .int .u8 0, .int .u8 0, .int .u8 0] 23 (0, 0)) ∧ wr.heap[w.heap.size + 1]? = some (.cells (vrow s k) 23 (0, 0)) ∧ Below w.heap.size w wr) (fun i _ => 32 - (intOf i).toNat)
  case atStart => exact ⟨0, by omega, rfl, R0, by rw [vrow_zero]; exact R1, Hw⟩
  case round =>
    clear R0 R1 Hw
    obtain ⟨k, hk, rfl, r0, r1, hw⟩ := hrel
    by_cases hlt : k < 32
    · have hd : decide ((k : Int) < 32) = true := by simp; omega
      have x0 := hh (2 * k) (by omega)
      have x1 := hh (2 * k + 1) (by omega)
      have hi0 := index_sb s hs (2 * (k : Int)) (2 * k) (by omega) (by omega)
      have hi1 := index_sb s hs (2 * (k : Int) + 1) (2 * k + 1) (by omega) (by omega)
      have hvb : hx (sb s (2 * k)) * 16 + hx (sb s (2 * k + 1)) = vb s k := rfl
      have cd1 := digit_any x0
      have cd2 := digit_any x1
      have b0 := hx_bd x0
      have b1 := hx_bd x1
      clear x0 x1
      generalize hx (sb s (2 * k)) = d1 at *
      generalize hx (sb s (2 * k + 1)) = d2 at *
      generalize sb s (2 * k) = c1 at *
      generalize sb s (2 * k + 1) = c2 at *
      go_wp2
      have Hr0 := keepr r0
      have Hr1 := keepr r1
      refine wp_region_tail (C := fun w' => ∃ p : Regrown, w' = grow (redrawn wr p.d) p.os) 15 _ rfl rfl rfl (by kernel_rfl) (by kernel_rfl) (by kernel_rfl) (by kernel_rfl) ⟨⟨wr.drawn + 1, #[]⟩, by rw [grow_empty]; rfl⟩ ?_
      dsimp only [List.set, idle]
      go_big_quiet_step (fail)
      go_big_quiet_step (fail)
      go_big_quiet_step (fail)
      go_big_quiet_step (fail)
      go_big_quiet_step (fail)
      go_big_quiet_step (exact cd1.re)
      go_big_quiet_step (fail)
      go_big_quiet_step (fail)
      go_big_quiet_step (fail)
      go_big_quiet_step (fail)
      go_big_quiet_step (fail)
      go_big_quiet_step (fail)
      go_big_quiet_step (exact cd2.re)
      go_big_quiet_step (fail)
      go_big_quiet_step (fail)
      refine wpQuiet_idle rfl rfl rfl ?_
      rintro _ ⟨p, rfl⟩
      have hb := below_regrown wr p.d p.os
      generalize grow (redrawn wr p.d) p.os = w1 at *
      replace r0 := keep hb r0
      replace r1 := keep hb r1
      replace hw := Below.after hw hb
      clear hb
      clear Hr0 Hr1
      have ck : w1.cell? ⟨w.heap.size + 1, k, none⟩ = some (.int .u8 0) := (cell_of_row _ _ _ _ _ _ r1).trans (vrow_at s k hlt)
      have fk : w1.frozen? ⟨w.heap.size + 1, k, none⟩ = false := by simp [World.frozen?, r1]
      go_wp2
      go_roundw
      case rel =>
        refine ⟨k + 1, by omega, by go_num, (heap_setCell_other _ _ _ _ (by simp)).trans r0, ?_, hw.setCell (Nat.le_succ _) _⟩
        rw [vrow_next s k hlt, ← hvb]
        exact heap_setCell_same _ _ _ _ _ _ r1
      case measure => simp [intOf]; omega
    · obtain rfl : k = 32 := by omega
      have hd : decide (((32 : Nat) : Int) < 32) = false := by decide
      have hi : (Tryd.prog.info? 23).map (·.size) = some (vrow s 32).size := by rw [vrow_size]; exact key_info
      have ho : (vrow s 32).all (·.oneCell') = true := by
        rw [Array.all_eq_true_iff_forall_mem]
        intro v hv
        simp only [vrow, List.mem_toArray, List.mem_map] at hv
        obtain ⟨j, _, rfl⟩ := hv
        split <;> rfl
      go_wp2_with (first | (refine wpList_load_want rfl 23 _ rfl (w.heap.size + 1) rfl 23 (vrow s 32) (0, 0) _ r1 Tryd.underlying23 rfl hi ?_) | (refine wpList_store_row rfl 23 _ _ rfl (w.heap.size) (vrow s 32) rfl rfl 23 _ r0 hi (by rw [vrow_size]; rfl) ho ?_) | fail)
      exact bodyPost_ret (v := .agg (vrow s 32)) (results_cell_row Tryd.results9 _ _ (w.heap.size) _ (vrow s 32) _ _ rfl (setRow_heap _ _ _ _ _ _ r0) Tryd.underlying23 rfl hi) rfl ⟨rfl, below_setRow hw (Nat.le_refl _) _⟩

end Go.Proofs.YtdimjlbnjhopgaaDoor

