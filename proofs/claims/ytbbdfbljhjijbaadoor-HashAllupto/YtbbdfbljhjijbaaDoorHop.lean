import Derived.Test.YtbbdfbljhjijbaaDoorHle
import Derived.Test.YtbbdfbljhjijbaaDoorHbu
import Derived.Test.YtbbdfbljhjijbaaDoorOpen
import Derived.WalkKit
import Derived.ProofKit
import Derived.OpenShut
import Derived.ChangeSlices
import Derived.ChangeArms
import Derived.Deep.Slices
namespace Go.Proofs.YtbbdfbljhjijbaaDoor
open Go Go.ChangeShapes Go.WideShapes Go.ChangeAt Go.RowKit Go.Deep

/-! Pieces and bools, out of the data. -/
theorem cellsB8 : Tryd.prog.cellsOf 5 = 1 := by kernel_rfl
theorem cellsSl : Tryd.prog.cellsOf 27 = 1 := by kernel_rfl
theorem cellsBo : Tryd.prog.cellsOf 4 = 1 := by kernel_rfl
theorem blk_of_cell {w : World} {b o : Nat} {v : Value} (h : w.cell? ⟨b, o, none⟩ = some v) : b < w.heap.size := by
  rcases Nat.lt_or_ge b w.heap.size with q | q
  · exact q
  · simp [World.cell?, Array.getElem?_eq_none q] at h
/-- One list of bytes. -/
theorem bytes_of_trod {H : Type} {enc : TypeId × Value → H} {W : World} {m : Nat} {v : Value} {x : DataW H × List MemPlace} (hf : DataW.trod enc Tryd.prog W 0 (fun _ => true) true m 27 [v] = some x) :
    ∃ bs : List Int, ∃ u uc, v = .slice u bs.length uc ∧ Bys W (.slice u bs.length uc) bs ∧ (u = none → uc = 0) ∧ bs.length ≤ uc ∧ bs.length ≤ Rows.uptoBulk x.1 := by
  rcases open_ints Tryd.underlying27 Tryd.underlying5 cellsB8 hf with ⟨hcs, hx⟩ | ⟨a, len, cap, zs, hcs, _, hl, hm, hz, hx, hcell, hwz⟩
  · injection hcs with hv _
    subst hv
    exact ⟨[], none, 0, rfl, ⟨none, 0, rfl, by decide, fun j hj => by simp at hj, by simp⟩, fun _ => rfl, Nat.le_refl _, Nat.zero_le _⟩
  · injection hcs with hv _
    subst hv
    subst hx
    simp only [if_true] at hz
    have hb := bulk_slice (lits (H := H) .u8 (zs.take len)) (lits .u8 (zs.drop len))
    simp only [lits, List.length_map] at hb
    have hlen : (zs.take len).length = len := by rw [List.length_take]; omega
    simp only [maxLen] at hm
    refine ⟨zs.take len, some a, cap, by rw [hlen], ?_, (fun h => by cases h), by omega, by simp only [lits]; omega⟩
    refine ⟨some a, cap, rfl, by rw [hlen]; omega, fun j hj => ?_, fun z h => u8_of_wf (hwz z (List.mem_of_mem_take h))⟩
    rw [hlen] at hj
    have hc := hcell j (by omega)
    obtain ⟨bb, off, spot⟩ := a
    have hspot : spot = none := by simpa [Addr.add] using World.cell?_spot (hcell 0 (by omega))
    subst hspot
    rw [addr_add] at hc
    refine ⟨bb, off, rfl, blk_of_cell hc, ?_⟩
    rw [hc, List.getD_eq_getElem?_getD, List.getD_eq_getElem?_getD, List.getElem?_take_of_lt hj]
theorem flat_bulk {H : Type} (PS : Nat → List Int) (D : Nat → DataW H) : ∀ l : List Nat, (∀ i ∈ l, (PS i).length ≤ Rows.uptoBulk (D i)) → ((l.map PS).flatten).length ≤ Rows.uptoBulkAll (l.map D)
  | [], _ => by simp [Rows.uptoBulkAll]
  | i :: r, h => by
    have h1 := h i (by simp)
    have h2 := flat_bulk PS D r (fun j hj => h j (by simp [hj]))
    simp only [List.map_cons, List.flatten_cons, List.length_append, Rows.uptoBulkAll]
    omega
theorem range_getD {α : Type} (f : Nat → α) (d : α) (n i : Nat) (h : i < n) : ((List.range n).map f).getD i d = f i := by
  rw [List.getD_eq_getElem?_getD, List.getElem?_map, List.getElem?_range h]
  rfl
theorem pcs_of_trod {H : Type} {enc : TypeId × Value → H} {W : World} {m : Nat} {v : Value} {x : DataW H × List MemPlace} (hf : DataW.trod enc Tryd.prog W 0 (fun _ => true) true m 40 [v] = some x) :
    ∃ ps : List (List Int), Pcs W v ps ∧ ps.flatten.length ≤ Rows.uptoBulk x.1 := by
  rcases open_slice1 Tryd.underlying40 cellsSl hf with ⟨hcs, hx⟩ | ⟨a, len, cap, m, n, V, D, Pl, hcs, _, hl, hm, hmm, hx, hel⟩
  · injection hcs with hv _
    subst hv
    exact ⟨[], ⟨none, 0, rfl, by decide, fun i hi => by simp at hi⟩, Nat.zero_le _⟩
  · injection hcs with hv _
    subst hv
    subst hx
    simp only [if_true] at hmm
    subst hmm
    obtain ⟨PS, hPS⟩ := choose_lt (α := List Int) (p := fun i bs => ∃ u uc, V i = .slice u bs.length uc ∧ Bys W (.slice u bs.length uc) bs ∧ (u = none → uc = 0) ∧ bs.length ≤ Rows.uptoBulk (D i)) (n := len) (fun i hi => by
      obtain ⟨bs, u, uc, h1, h2, h3, _, h5⟩ := bytes_of_trod (hel i (by omega)).2
      exact ⟨bs, u, uc, h1, h2, h3, h5⟩)
    have hb := bulk_elems ((List.range len).map D) ((List.range (m - len)).map fun j => D (len + j))
    have hfb := flat_bulk PS D (List.range len) (fun i hi => by
      obtain ⟨_, _, _, _, _, h⟩ := hPS i (List.mem_range.1 hi)
      exact h)
    simp only [maxLen] at hm
    refine ⟨(List.range len).map PS, ⟨some a, _, by simp; rfl, by simp; omega, fun i hi => ?_⟩, by show _ ≤ Rows.uptoBulk (DataW.slice _ _); omega⟩
    have hi' : i < len := by simpa using hi
    obtain ⟨u, uc, h1, h2, h3, _⟩ := hPS i hi'
    have hc := (hel i (by omega)).1
    obtain ⟨bb, off, spot⟩ := a
    have hspot : spot = none := by simpa [Addr.add] using World.cell?_spot (hel 0 (by omega)).1
    subst hspot
    rw [addr_add, h1] at hc
    rw [range_getD PS [] len i hi']
    exact ⟨bb, off, u, uc, rfl, blk_of_cell hc, hc, h2, h3⟩
theorem bls_of_trod {H : Type} {enc : TypeId × Value → H} {W : World} {m : Nat} {v : Value} {x : DataW H × List MemPlace} (hf : DataW.trod enc Tryd.prog W 0 (fun _ => true) true m 41 [v] = some x) :
    ∃ qs : List Bool, Bls W v qs := by
  rcases open_slice1 Tryd.underlying41 cellsBo hf with ⟨hcs, hx⟩ | ⟨a, len, cap, m, n, V, D, Pl, hcs, _, hl, hm, hmm, hx, hel⟩
  · injection hcs with hv _
    subst hv
    exact ⟨[], ⟨none, 0, rfl, by decide, fun i hi => by simp at hi⟩⟩
  · injection hcs with hv _
    subst hv
    simp only [if_true] at hmm
    subst hmm
    obtain ⟨Q, hQ⟩ := choose_lt (α := Bool) (p := fun i b => V i = .bool b) (n := len) (fun i hi => by
      obtain ⟨b, h1, _⟩ := DataW.trod_bool Tryd.underlying4 (hel i (by omega)).2
      injection h1 with h1 _
      exact ⟨b, h1⟩)
    simp only [maxLen] at hm
    refine ⟨(List.range len).map Q, ⟨some a, _, by simp; rfl, by simp; omega, fun i hi => ?_⟩⟩
    have hi' : i < len := by simpa using hi
    have hc := (hel i (by omega)).1
    obtain ⟨bb, off, spot⟩ := a
    have hspot : spot = none := by simpa [Addr.add] using World.cell?_spot (hel 0 (by omega)).1
    subst hspot
    rw [addr_add, hQ i hi'] at hc
    rw [range_getD Q false len i hi']
    exact ⟨bb, off, rfl, blk_of_cell hc, hc⟩
end Go.Proofs.YtbbdfbljhjijbaaDoor
