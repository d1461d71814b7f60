import Derived.Test.YtgfeacnhdlgpoaaDoorTrc
import Derived.Test.YtgfeacnhdlgpoaaDoorOpen
import Derived.Deep.Slices
import Derived.ChangeSlices
import Derived.SizedLaws
namespace Go.Proofs.YtgfeacnhdlgpoaaDoor
set_option maxRecDepth 100000
open Go Go.RowKit Go.Sort Go.ChangeShapes Go.WideShapes Go.Deep

/-! Keys out of the data. -/
theorem cKeyA : Tryd.prog.cellsOf 24 = 32 := by kernel_rfl
theorem bKeyA : Tryd.prog.bytesOf 24 = 32 := by kernel_rfl
theorem cU8A : Tryd.prog.cellsOf 5 = 1 := by kernel_rfl
/-- Cells that are read as an array of bytes. -/
theorem cells_key {H : Type} {enc : TypeId × Value → H} {W : World} {m : Nat} {cs : List Value} {x : DataW H × List MemPlace} (h : DataW.trod enc Tryd.prog W 0 (fun _ => true) true m 24 cs = some x) : ∃ l : List Int, (l.length = 32 ∧ ∀ z ∈ l, 0 ≤ z ∧ z < 256) ∧ cs = l.map (Value.int .u8) := by
  obtain ⟨xs, m, _, _, hlen, hn, hel⟩ := DataW.trod_array Tryd.underlying24 h
  rw [cKeyA] at hlen
  obtain ⟨l, hl, hw⟩ := ints_of cs .u8 (fun i hi => by
    have hin : i < 32 := by omega
    have e1 := hel i hin
    rw [cU8A, List.getElem?_eq_getElem (show i < xs.length by omega)] at e1
    obtain ⟨a, q0, _, q2⟩ := DataW.trod_int Tryd.underlying5 e1
    simp only [Nat.mul_one] at q0
    rw [List.drop_eq_getElem_cons hi, List.take_succ_cons, List.take_zero] at q0
    injection q0 with q0 _
    exact ⟨a, q0, q2⟩)
  refine ⟨l, ⟨?_, fun z hz => u8_of_wf (hw z hz)⟩, hl⟩
  have := congrArg List.length hl
  rw [List.length_map, hlen] at this
  omega
theorem ksl_of_trod {H : Type} {enc : TypeId × Value → H} {W : World} {m : Nat} {v : Value} {x : DataW H × List MemPlace} (hf : DataW.trod enc Tryd.prog W 0 (fun _ => true) true m 31 [v] = some x) (hs : ∀ n ∈ x.1.weights Tryd.prog 31, n ≤ reachBytes) : ∃ l : List (List Int), Ksl W v l ∧ l.length ≤ 4398046510976 := by
  rcases open_slice Tryd.underlying31 hf with ⟨hcs, hx⟩ | ⟨a, len, cap, m, n, D, Pl, hcs, _, hl, hm, hmm, hx, hel⟩
  · injection hcs with hv _
    subst hv
    exact ⟨[], Ksl.nil W, by simp⟩
  · injection hcs with hv _
    subst hv
    subst hx
    simp only [if_true] at hmm
    subst hmm
    rw [cKeyA] at hel
    have hb := hs ((((List.range len).map D).length + ((List.range (m - len)).map fun j => D (len + j)).length) * 32) (by simp [DataW.weights, Tryd.underlying31, bKeyA])
    simp only [List.length_map, List.length_range, reachBytes] at hb
    obtain ⟨PS, hPS⟩ := choose_lt (α := List Int) (n := len) (p := fun i l => (l.length = 32 ∧ ∀ z ∈ l, 0 ≤ z ∧ z < 256) ∧ W.cells? 0 (a.add (i * 32)) 32 = some (l.map (Value.int .u8))) (fun i hi => by
      obtain ⟨cs', h1, h2⟩ := hel i (by omega)
      obtain ⟨l, h3, rfl⟩ := cells_key h2
      exact ⟨l, h3, h1⟩)
    have hg : ∀ i, i < len → ((List.range len).map PS).getD i [] = PS i := fun i hi => by simp [List.getD_eq_getElem?_getD, hi]
    have hlen : ((List.range len).map PS).length = len := by simp
    refine ⟨(List.range len).map PS, ⟨some a, m, by rw [hlen], by rw [hlen]; exact hl, fun k hk => ?_, by rw [hlen]; omega, (fun e => by cases e), fun i hi => ?_⟩, by rw [hlen]; omega⟩
    · obtain ⟨i, hi, rfl⟩ := List.mem_map.1 hk
      exact (hPS i (List.mem_range.1 hi)).1
    have hi' : i < len := by omega
    rw [hg i hi']
    obtain ⟨⟨hl32, _⟩, h1⟩ := hPS i hi'
    obtain ⟨_, hln, hc⟩ := World.cells?_some h1
    obtain ⟨bb, off, spot⟩ := a
    have hspot : spot = none := by
      obtain ⟨⟨g0, _⟩, g1⟩ := hPS 0 (by omega)
      obtain ⟨_, hl0, hc0⟩ := World.cells?_some g1
      have := hc0 0 (by omega)
      rw [List.getElem?_eq_getElem (by omega)] at this
      simpa [Addr.add] using World.cell?_spot this
    subst hspot
    have hc' : ∀ j, j < 32 → W.cell? ⟨bb, off + i * 32 + j, none⟩ = ((PS i).map (Value.int .u8))[j]? := fun j hj => by
      have := hc j hj
      rwa [addr_add, addr_add] at this
    have h0 := hc' 0 (by omega)
    rw [List.getElem?_eq_getElem (by rw [List.length_map]; omega)] at h0
    obtain ⟨cs, t, fr, hrow⟩ : ∃ cs t fr, W.heap[bb]? = some (.cells cs t fr) := by
      unfold World.cell? at h0
      revert h0
      cases hq : W.heap[bb]? with
      | none => simp
      | some o => cases o <;> simp
    refine ⟨bb, off, cs, t, fr, rfl, hrow, ?_⟩
    apply Array.ext'
    rw [irow_size, hl32]
    simp only [Array.toList_extract, irow, List.extract_eq_take_drop]
    apply List.ext_getElem?
    intro j
    by_cases hj : j < 32
    · rw [List.getElem?_take_of_lt (by omega), List.getElem?_drop, Array.getElem?_toList, ← hc' j hj, cell_of_row _ _ _ _ _ _ hrow]
    · rw [List.getElem?_eq_none (by rw [List.length_take]; omega), List.getElem?_eq_none (by rw [List.length_map]; omega)]
end Go.Proofs.YtgfeacnhdlgpoaaDoor
