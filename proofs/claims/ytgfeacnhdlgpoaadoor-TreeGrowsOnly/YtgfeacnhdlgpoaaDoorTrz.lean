import Derived.Test.YtgfeacnhdlgpoaaDoorTro
import Derived.Test.YtgfeacnhdlgpoaaDoorTrw
import Derived.Test.YtgfeacnhdlgpoaaDoorOpen
import Derived.Deep.Slices
import Derived.ChangeSlices
import Derived.SizedLaws
namespace Go.Proofs.YtgfeacnhdlgpoaaDoor
set_option maxRecDepth 100000
open Go Go.RowKit Go.Sort Go.ChangeShapes Go.WideShapes Go.Deep

theorem cIntG : Tryd.prog.cellsOf 3 = 1 := by kernel_rfl
theorem cSlKG : Tryd.prog.cellsOf 31 = 1 := by kernel_rfl
theorem cGvA : Tryd.prog.cellsOf 60 = 4 := by kernel_rfl
theorem grove_of_trod {H : Type} {enc : TypeId × Value → H} {W : World} {m : Nat} {cs : List Value} {x : DataW H × List MemPlace} (hf : DataW.trod enc Tryd.prog W 0 (fun _ => true) true m 60 cs = some x) (hs : ∀ n ∈ x.1.weights Tryd.prog 60, n ≤ reachBytes) : ∃ (v : Value) (m n i : Int) (p : List (List Int)), (-9223372036854775808 ≤ m ∧ m ≤ 9223372036854775807) ∧ (-9223372036854775808 ≤ n ∧ n ≤ 9223372036854775807) ∧ (-9223372036854775808 ≤ i ∧ i ≤ 9223372036854775807) ∧ cs = (gvrow v m n i).toList ∧ Ksl W v p ∧ p.length ≤ 4398046510976 := by
  obtain ⟨xs, n, _, rfl, hl, hlen, hfld⟩ := DataW.trod_struct Tryd.underlying60 hf
  rw [cGvA] at hl
  match xs, hlen with
  | [y0, y1, y2, y3], _ =>
  have f0 : DataW.trod enc Tryd.prog W 0 (fun _ => true) true n 31 ((cs.drop 0).take (Tryd.prog.cellsOf 31)) = some y0 := hfld 0 _ rfl
  have f1 : DataW.trod enc Tryd.prog W 0 (fun _ => true) true n 3 ((cs.drop 1).take (Tryd.prog.cellsOf 3)) = some y1 := hfld 1 _ rfl
  have f2 : DataW.trod enc Tryd.prog W 0 (fun _ => true) true n 3 ((cs.drop 2).take (Tryd.prog.cellsOf 3)) = some y2 := hfld 2 _ rfl
  have f3 : DataW.trod enc Tryd.prog W 0 (fun _ => true) true n 3 ((cs.drop 3).take (Tryd.prog.cellsOf 3)) = some y3 := hfld 3 _ rfl
  simp only [cIntG, cSlKG] at f0 f1 f2 f3
  match cs, hl with
  | [c0, c1, c2, c3], _ =>
  simp only [List.drop_zero, List.drop_succ_cons, List.take_succ_cons, List.take_zero] at f0 f1 f2 f3
  obtain ⟨a, e1, _, wa⟩ := DataW.trod_int Tryd.underlying3 f1
  obtain ⟨b, e2, _, wb⟩ := DataW.trod_int Tryd.underlying3 f2
  obtain ⟨c, e3, _, wc⟩ := DataW.trod_int Tryd.underlying3 f3
  cases e1
  cases e2
  cases e3
  obtain ⟨p, hp, hpl⟩ := ksl_of_trod f0 (fun n hn => hs n (by
    simp only [DataW.weights, Tryd.underlying60]
    exact DataW.weights_mem_each (j := 0) rfl rfl n hn))
  exact ⟨c0, a, b, c, p, bounds_i64 wa, bounds_i64 wb, bounds_i64 wc, rfl, hp, hpl⟩
end Go.Proofs.YtgfeacnhdlgpoaaDoor
