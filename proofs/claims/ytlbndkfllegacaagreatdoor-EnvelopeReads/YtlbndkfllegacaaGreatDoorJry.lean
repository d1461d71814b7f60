import Derived.Test.YtlbndkfllegacaaGreatDoorJrx
import Derived.Test.YtlbndkfllegacaaGreatDoorOpen
import Derived.Deep.Slices
import Derived.ChangeSlices
import Derived.SizedLaws
namespace Go.Proofs.YtlbndkfllegacaaGreatDoor
set_option maxRecDepth 100000
open Go Go.RowKit Go.Sort Go.ChangeShapes Go.WideShapes Go.Deep

theorem cKeyA : Tryz.prog.cellsOf 25 = 32 := by kernel_rfl
theorem cU8A : Tryz.prog.cellsOf 5 = 1 := by kernel_rfl
def K8 (l : List Int) : Prop := l.length = 32 ∧ ∀ x ∈ l, 0 ≤ x ∧ x < 256
theorem cBoA : Tryz.prog.cellsOf 4 = 1 := by kernel_rfl
theorem cells_k8 {H : Type} {enc : TypeId × Value → H} {W : World} {m : Nat} {cs : List Value} {x : DataW H × List MemPlace} (h : DataW.trod enc Tryz.prog W 0 (fun _ => true) true m 25 cs = some x) : ∃ l : List Int, K8 l ∧ cs = k8 l := by
  obtain ⟨xs, m, _, _, hlen, hn, hel⟩ := DataW.trod_array Tryz.underlying25 h
  rw [cKeyA] at hlen
  obtain ⟨l, hl, hw⟩ := ints_of cs .u8 (fun i hi => by
    have hin : i < 32 := by omega
    have e1 := hel i hin
    rw [cU8A, List.getElem?_eq_getElem (show i < xs.length by omega)] at e1
    obtain ⟨a, q0, _, q2⟩ := DataW.trod_int Tryz.underlying5 e1
    simp only [Nat.mul_one] at q0
    rw [List.drop_eq_getElem_cons hi, List.take_succ_cons, List.take_zero] at q0
    injection q0 with q0 _
    exact ⟨a, q0, q2⟩)
  refine ⟨l, ⟨?_, fun z hz => u8_of_wf (hw z hz)⟩, hl⟩
  have := congrArg List.length hl
  rw [List.length_map, hlen] at this
  omega
theorem glue {cs seg rest : List Value} {o n : Nat} (h1 : (cs.drop o).take n = seg) (h2 : cs.drop (o + n) = rest) : cs.drop o = seg ++ rest := by
  rw [← h1, ← h2, ← List.drop_drop, List.take_append_drop]
theorem cBnA : Tryz.prog.cellsOf 43 = 97 := by kernel_rfl
theorem bn_of_trod {H : Type} {enc : TypeId × Value → H} {W : World} {m : Nat} {cs : List Value} {x : DataW H × List MemPlace} (hf : DataW.trod enc Tryz.prog W 0 (fun _ => true) true m 43 cs = some x) : ∃ (i s o : List Int) (h : Bool), K8 i ∧ K8 s ∧ K8 o ∧ cs = (brow i s o h).toList := by
  obtain ⟨xs, n, _, rfl, hl, hlen, hfld⟩ := DataW.trod_struct Tryz.underlying43 hf
  rw [cBnA] at hl
  match xs, hlen with
  | [y0, y1, y2, y3], _ =>
  have f0 : DataW.trod enc Tryz.prog W 0 (fun _ => true) true n 25 ((cs.drop 0).take (Tryz.prog.cellsOf 25)) = some y0 := hfld 0 _ rfl
  rw [cKeyA] at f0
  have f1 : DataW.trod enc Tryz.prog W 0 (fun _ => true) true n 25 ((cs.drop 32).take (Tryz.prog.cellsOf 25)) = some y1 := hfld 1 _ rfl
  rw [cKeyA] at f1
  have f2 : DataW.trod enc Tryz.prog W 0 (fun _ => true) true n 25 ((cs.drop 64).take (Tryz.prog.cellsOf 25)) = some y2 := hfld 2 _ rfl
  rw [cKeyA] at f2
  have f3 : DataW.trod enc Tryz.prog W 0 (fun _ => true) true n 4 ((cs.drop 96).take (Tryz.prog.cellsOf 4)) = some y3 := hfld 3 _ rfl
  rw [cBoA] at f3
  obtain ⟨i, k_i, e0⟩ := cells_k8 f0
  obtain ⟨s, k_s, e1⟩ := cells_k8 f1
  obtain ⟨o, k_o, e2⟩ := cells_k8 f2
  obtain ⟨h, e3, _⟩ := DataW.trod_bool Tryz.underlying4 f3
  refine ⟨i, s, o, h, k_i, k_s, k_o, ?_⟩
  have z : cs.drop 97 = [] := List.drop_eq_nil_of_le (by omega)
  have a3 := glue e3 z
  have a2 := glue e2 a3
  have a1 := glue e1 a2
  have a0 := glue e0 a1
  rw [List.drop_zero] at a0
  rw [a0]
  simp [brow]
end Go.Proofs.YtlbndkfllegacaaGreatDoor
