import Derived.Test.YtgfeacnhdlgpoaaDoorTzc
import Derived.Test.YtgfeacnhdlgpoaaDoorTro
import Derived.Test.YtgfeacnhdlgpoaaDoorOpen
import Derived.Deep.Slices
import Derived.ChangeSlices
import Derived.SizedLaws
namespace Go.Proofs.YtgfeacnhdlgpoaaDoor
set_option maxRecDepth 100000
open Go Go.RowKit Go.Sort Go.ChangeShapes Go.WideShapes Go.Deep

/-! Asks out of the data. -/
theorem cIntB : Tryd.prog.cellsOf 3 = 1 := by kernel_rfl
theorem cAskA : Tryd.prog.cellsOf 45 = 35 := by kernel_rfl
theorem bAskA : Tryd.prog.bytesOf 45 = 56 := by kernel_rfl
theorem cells_ask {H : Type} {enc : TypeId × Value → H} {W : World} {m : Nat} {cs : List Value} {x : DataW H × List MemPlace} (hf : DataW.trod enc Tryd.prog W 0 (fun _ => true) true m 45 cs = some x) : ∃ (q : (Int × Int × Int) × List Int), Ky q.2 ∧ cs = (askrow q.1.1 q.1.2.1 q.1.2.2 q.2).toList := by
  obtain ⟨xs, n, _, _, hl, hlen, hfld⟩ := DataW.trod_struct Tryd.underlying45 hf
  rw [cAskA] at hl
  match xs, hlen with
  | [y0, y1, y2, y3], _ =>
  have f0 : DataW.trod enc Tryd.prog W 0 (fun _ => true) true n 3 ((cs.drop 0).take (Tryd.prog.cellsOf 3)) = some y0 := hfld 0 _ rfl
  have f1 : DataW.trod enc Tryd.prog W 0 (fun _ => true) true n 3 ((cs.drop 1).take (Tryd.prog.cellsOf 3)) = some y1 := hfld 1 _ rfl
  have f2 : DataW.trod enc Tryd.prog W 0 (fun _ => true) true n 3 ((cs.drop 2).take (Tryd.prog.cellsOf 3)) = some y2 := hfld 2 _ rfl
  have f3 : DataW.trod enc Tryd.prog W 0 (fun _ => true) true n 24 ((cs.drop 3).take (Tryd.prog.cellsOf 24)) = some y3 := hfld 3 _ rfl
  simp only [cKeyA, cIntB, List.drop_zero] at f0 f1 f2 f3
  obtain ⟨a, e0, _, _⟩ := DataW.trod_int Tryd.underlying3 f0
  obtain ⟨b, e1, _, _⟩ := DataW.trod_int Tryd.underlying3 f1
  obtain ⟨c, e2, _, _⟩ := DataW.trod_int Tryd.underlying3 f2
  obtain ⟨r, hr, e3⟩ := cells_key f3
  refine ⟨((a, b, c), r), hr, ?_⟩
  have h1 := (List.take_append_drop 1 cs).symm
  have h2 := (List.take_append_drop 1 (cs.drop 1)).symm
  have h3 := (List.take_append_drop 1 (cs.drop 2)).symm
  have h4 : (cs.drop 3).take 32 = cs.drop 3 := List.take_of_length_le (by rw [List.length_drop]; omega)
  rw [List.drop_drop] at h2 h3
  rw [e0] at h1
  rw [e1] at h2
  rw [e2] at h3
  rw [e3] at h4
  rw [h1, h2]
  show _ ++ (_ ++ List.drop 2 cs) = _
  rw [h3]
  show _ ++ (_ ++ (_ ++ List.drop 3 cs)) = _
  rw [← h4]
  rfl
theorem asks_of_trod {H : Type} {enc : TypeId × Value → H} {W : World} {m : Nat} {v : Value} {x : DataW H × List MemPlace} (hf : DataW.trod enc Tryd.prog W 0 (fun _ => true) true m 37 [v] = some x) (hs : ∀ n ∈ x.1.weights Tryd.prog 37, n ≤ reachBytes) : ∃ N : Nat, Asks W v N := by
  rcases open_slice Tryd.underlying37 hf with ⟨hcs, hx⟩ | ⟨a, len, cap, m, n, D, Pl, hcs, _, hl, hm, hmm, hx, hel⟩
  · injection hcs with hv _
    subst hv
    exact ⟨0, none, 0, rfl, by omega, fun i hi => by omega⟩
  · injection hcs with hv _
    subst hv
    subst hx
    simp only [if_true] at hmm
    subst hmm
    rw [cAskA] at hel
    have hb := hs ((((List.range len).map D).length + ((List.range (m - len)).map fun j => D (len + j)).length) * 56) (by simp [DataW.weights, Tryd.underlying37, bAskA])
    simp only [List.length_map, List.length_range, reachBytes] at hb
    refine ⟨len, some a, m, rfl, by omega, fun i hi => ?_⟩
    obtain ⟨cs', h1, h2⟩ := hel i (by omega)
    obtain ⟨⟨⟨kd, p, q⟩, lf⟩, hlf, rfl⟩ := cells_ask h2
    have hsz := as_size kd p q lf hlf.1
    obtain ⟨_, hln, hc⟩ := World.cells?_some h1
    obtain ⟨bb, off, spot⟩ := a
    have hspot : spot = none := by
      obtain ⟨cs0, g1, _⟩ := hel 0 (by omega)
      obtain ⟨_, hl0, hc0⟩ := World.cells?_some g1
      have := hc0 0 (by omega)
      rw [List.getElem?_eq_getElem (by omega)] at this
      simpa [Addr.add] using World.cell?_spot this
    subst hspot
    have hc' : ∀ j, j < 35 → W.cell? ⟨bb, off + i * 35 + j, none⟩ = (askrow kd p q lf).toList[j]? := fun j hj => by
      have := hc j hj
      rwa [addr_add, addr_add] at this
    have h0 := hc' 0 (by omega)
    rw [List.getElem?_eq_getElem (by rw [Array.length_toList]; omega)] at h0
    obtain ⟨cs, t, fr, hrow⟩ : ∃ cs t fr, W.heap[bb]? = some (.cells cs t fr) := by
      unfold World.cell? at h0
      revert h0
      cases hq : W.heap[bb]? with
      | none => simp
      | some o => cases o <;> simp
    refine ⟨bb, off, cs, t, fr, kd, p, q, lf, rfl, hrow, hlf, ?_⟩
    apply Array.ext'
    rw [hsz]
    simp only [Array.toList_extract, List.extract_eq_take_drop]
    apply List.ext_getElem?
    intro j
    by_cases hj : j < 35
    · rw [List.getElem?_take_of_lt (by omega), List.getElem?_drop, Array.getElem?_toList, ← hc' j hj, cell_of_row _ _ _ _ _ _ hrow]
    · rw [List.getElem?_eq_none (by rw [List.length_take]; omega), List.getElem?_eq_none (by rw [Array.length_toList]; omega)]
end Go.Proofs.YtgfeacnhdlgpoaaDoor
