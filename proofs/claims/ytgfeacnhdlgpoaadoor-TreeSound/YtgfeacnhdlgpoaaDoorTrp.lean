import Derived.Test.YtgfeacnhdlgpoaaDoorTro
import Derived.Test.YtgfeacnhdlgpoaaDoorTrn
import Derived.Test.YtgfeacnhdlgpoaaDoorOpen
import Derived.Deep.Slices
import Derived.ChangeSlices
import Derived.SizedLaws
namespace Go.Proofs.YtgfeacnhdlgpoaaDoor
set_option maxRecDepth 100000
open Go Go.RowKit Go.Sort Go.ChangeShapes Go.WideShapes Go.Deep

theorem cIntA : Tryd.prog.cellsOf 3 = 1 := by kernel_rfl
theorem cSlKA : Tryd.prog.cellsOf 31 = 1 := by kernel_rfl
theorem cPlA : Tryd.prog.cellsOf 52 = 67 := by kernel_rfl
theorem place_of_trod {H : Type} {enc : TypeId × Value → H} {W : World} {m : Nat} {cs : List Value} {x : DataW H × List MemPlace} (hf : DataW.trod enc Tryd.prog W 0 (fun _ => true) true m 52 cs = some x) (hs : ∀ n ∈ x.1.weights Tryd.prog 52, n ≤ reachBytes) : ∃ (r y : List Int) (n i : Int) (v : Value) (p : List (List Int)), Ky r ∧ Ky y ∧ (-9223372036854775808 ≤ n ∧ n ≤ 9223372036854775807) ∧ (-9223372036854775808 ≤ i ∧ i ≤ 9223372036854775807) ∧ cs = (plrow r y n i v).toList ∧ Ksl W v p ∧ p.length ≤ 4398046510976 := by
  obtain ⟨xs, n, _, rfl, hl, hlen, hfld⟩ := DataW.trod_struct Tryd.underlying52 hf
  rw [cPlA] at hl
  match xs, hlen with
  | [y0, y1, y2, y3, y4], _ =>
  have f0 : DataW.trod enc Tryd.prog W 0 (fun _ => true) true n 24 ((cs.drop 0).take (Tryd.prog.cellsOf 24)) = some y0 := hfld 0 _ rfl
  have f1 : DataW.trod enc Tryd.prog W 0 (fun _ => true) true n 24 ((cs.drop 32).take (Tryd.prog.cellsOf 24)) = some y1 := hfld 1 _ rfl
  have f2 : DataW.trod enc Tryd.prog W 0 (fun _ => true) true n 3 ((cs.drop 64).take (Tryd.prog.cellsOf 3)) = some y2 := hfld 2 _ rfl
  have f3 : DataW.trod enc Tryd.prog W 0 (fun _ => true) true n 3 ((cs.drop 65).take (Tryd.prog.cellsOf 3)) = some y3 := hfld 3 _ rfl
  have f4 : DataW.trod enc Tryd.prog W 0 (fun _ => true) true n 31 ((cs.drop 66).take (Tryd.prog.cellsOf 31)) = some y4 := hfld 4 _ rfl
  simp only [cKeyA, cIntA, cSlKA, List.drop_zero] at f0 f1 f2 f3 f4
  obtain ⟨r, hr, e0⟩ := cells_key f0
  obtain ⟨y, hy, e1⟩ := cells_key f1
  obtain ⟨a, e2, _, wa⟩ := DataW.trod_int Tryd.underlying3 f2
  obtain ⟨b, e3, _, wb⟩ := DataW.trod_int Tryd.underlying3 f3
  obtain ⟨v, e4⟩ := List.length_eq_one_iff.1 (show ((cs.drop 66).take 1).length = 1 by rw [List.length_take, List.length_drop]; omega)
  rw [e4] at f4
  obtain ⟨p, hp, hpl⟩ := ksl_of_trod f4 (fun n hn => hs n (by
    simp only [DataW.weights, Tryd.underlying52]
    exact DataW.weights_mem_each (j := 4) rfl rfl n hn))
  have ba := bounds_i64 wa
  have bb := bounds_i64 wb
  refine ⟨r, y, a, b, v, p, hr, hy, ba, bb, ?_, hp, hpl⟩
  have h1 := (List.take_append_drop 32 cs).symm
  have h2 := (List.take_append_drop 32 (cs.drop 32)).symm
  have h3 := (List.take_append_drop 1 (cs.drop 64)).symm
  have h4 := (List.take_append_drop 1 (cs.drop 65)).symm
  have h5 : (cs.drop 66).take 1 = cs.drop 66 := List.take_of_length_le (by rw [List.length_drop]; omega)
  rw [List.drop_drop] at h2 h3 h4
  rw [e0] at h1
  rw [e1] at h2
  rw [e2] at h3
  rw [e3] at h4
  rw [e4] at h5
  rw [h1, h2]
  show _ ++ (_ ++ List.drop 64 cs) = _
  rw [h3]
  show _ ++ (_ ++ (_ ++ List.drop 65 cs)) = _
  rw [h4]
  show _ ++ (_ ++ (_ ++ (_ ++ List.drop 66 cs))) = _
  rw [← h5]
  rfl
theorem cCmA : Tryd.prog.cellsOf 56 = 67 := by kernel_rfl
theorem claim_of_trod {H : Type} {enc : TypeId × Value → H} {W : World} {m : Nat} {cs : List Value} {x : DataW H × List MemPlace} (hf : DataW.trod enc Tryd.prog W 0 (fun _ => true) true m 56 cs = some x) (hs : ∀ n ∈ x.1.weights Tryd.prog 56, n ≤ reachBytes) : ∃ (r y : List Int) (n i : Int) (v : Value) (p : List (List Int)), Ky r ∧ Ky y ∧ (-9223372036854775808 ≤ n ∧ n ≤ 9223372036854775807) ∧ (-9223372036854775808 ≤ i ∧ i ≤ 9223372036854775807) ∧ cs = (plrow r y n i v).toList ∧ Ksl W v p ∧ p.length ≤ 4398046510976 := by
  obtain ⟨xs, n, _, rfl, hl, hlen, hfld⟩ := DataW.trod_struct Tryd.underlying56 hf
  rw [cCmA] at hl
  match xs, hlen with
  | [y0, y1, y2, y3, y4], _ =>
  have f0 : DataW.trod enc Tryd.prog W 0 (fun _ => true) true n 24 ((cs.drop 0).take (Tryd.prog.cellsOf 24)) = some y0 := hfld 0 _ rfl
  have f1 : DataW.trod enc Tryd.prog W 0 (fun _ => true) true n 24 ((cs.drop 32).take (Tryd.prog.cellsOf 24)) = some y1 := hfld 1 _ rfl
  have f2 : DataW.trod enc Tryd.prog W 0 (fun _ => true) true n 3 ((cs.drop 64).take (Tryd.prog.cellsOf 3)) = some y2 := hfld 2 _ rfl
  have f3 : DataW.trod enc Tryd.prog W 0 (fun _ => true) true n 3 ((cs.drop 65).take (Tryd.prog.cellsOf 3)) = some y3 := hfld 3 _ rfl
  have f4 : DataW.trod enc Tryd.prog W 0 (fun _ => true) true n 31 ((cs.drop 66).take (Tryd.prog.cellsOf 31)) = some y4 := hfld 4 _ rfl
  simp only [cKeyA, cIntA, cSlKA, List.drop_zero] at f0 f1 f2 f3 f4
  obtain ⟨r, hr, e0⟩ := cells_key f0
  obtain ⟨y, hy, e1⟩ := cells_key f1
  obtain ⟨a, e2, _, wa⟩ := DataW.trod_int Tryd.underlying3 f2
  obtain ⟨b, e3, _, wb⟩ := DataW.trod_int Tryd.underlying3 f3
  obtain ⟨v, e4⟩ := List.length_eq_one_iff.1 (show ((cs.drop 66).take 1).length = 1 by rw [List.length_take, List.length_drop]; omega)
  rw [e4] at f4
  obtain ⟨p, hp, hpl⟩ := ksl_of_trod f4 (fun n hn => hs n (by
    simp only [DataW.weights, Tryd.underlying56]
    exact DataW.weights_mem_each (j := 4) rfl rfl n hn))
  have ba := bounds_i64 wa
  have bb := bounds_i64 wb
  refine ⟨r, y, a, b, v, p, hr, hy, ba, bb, ?_, hp, hpl⟩
  have h1 := (List.take_append_drop 32 cs).symm
  have h2 := (List.take_append_drop 32 (cs.drop 32)).symm
  have h3 := (List.take_append_drop 1 (cs.drop 64)).symm
  have h4 := (List.take_append_drop 1 (cs.drop 65)).symm
  have h5 : (cs.drop 66).take 1 = cs.drop 66 := List.take_of_length_le (by rw [List.length_drop]; omega)
  rw [List.drop_drop] at h2 h3 h4
  rw [e0] at h1
  rw [e1] at h2
  rw [e2] at h3
  rw [e3] at h4
  rw [e4] at h5
  rw [h1, h2]
  show _ ++ (_ ++ List.drop 64 cs) = _
  rw [h3]
  show _ ++ (_ ++ (_ ++ List.drop 65 cs)) = _
  rw [h4]
  show _ ++ (_ ++ (_ ++ (_ ++ List.drop 66 cs))) = _
  rw [← h5]
  rfl
end Go.Proofs.YtgfeacnhdlgpoaaDoor
