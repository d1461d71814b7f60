import Derived.Test.YtgbkbcgjagcgbaaAga
import Derived.Test.YtgbkbcgjagcgbaaOpen
import Derived.Deep.Slices
import Derived.ChangeSlices
import Derived.SizedLaws
namespace Go.Proofs.Ytgbkbcgjagcgbaa
open Go Go.RowKit Go.Sort Go.ChangeShapes Go.WideShapes Go.Deep

theorem cKeyA : Try.prog.cellsOf 23 = 32 := by kernel_rfl
theorem cU8A : Try.prog.cellsOf 5 = 1 := by kernel_rfl
def K8 (l : List Int) : Prop := l.length = 32 ∧ ∀ x ∈ l, 0 ≤ x ∧ x < 256
theorem cPrA : Try.prog.cellsOf 25 = 64 := by kernel_rfl
theorem cBoA : Try.prog.cellsOf 4 = 1 := by kernel_rfl
theorem cells_k8 {H : Type} {enc : TypeId × Value → H} {W : World} {m : Nat} {cs : List Value} {x : DataW H × List MemPlace} (h : DataW.trod enc Try.prog W 0 (fun _ => true) true m 23 cs = some x) : ∃ l : List Int, K8 l ∧ cs = k8 l := by
  obtain ⟨xs, m, _, _, hlen, hn, hel⟩ := DataW.trod_array Try.underlying23 h
  rw [cKeyA] at hlen
  obtain ⟨l, hl, hw⟩ := ints_of cs .u8 (fun i hi => by
    have hin : i < 32 := by omega
    have e1 := hel i hin
    rw [cU8A, List.getElem?_eq_getElem (show i < xs.length by omega)] at e1
    obtain ⟨a, q0, _, q2⟩ := DataW.trod_int Try.underlying5 e1
    simp only [Nat.mul_one] at q0
    rw [List.drop_eq_getElem_cons hi, List.take_succ_cons, List.take_zero] at q0
    injection q0 with q0 _
    exact ⟨a, q0, q2⟩)
  refine ⟨l, ⟨?_, fun z hz => u8_of_wf (hw z hz)⟩, hl⟩
  have := congrArg List.length hl
  rw [List.length_map, hlen] at this
  omega
theorem glue {cs seg rest : List Value} {o n : Nat} (h1 : (cs.drop o).take n = seg) (h2 : cs.drop (o + n) = rest) : cs.drop o = seg ++ rest := by
  rw [← h1, ← h2, ← List.drop_drop, List.take_append_drop]
theorem pr_of_trod {H : Type} {enc : TypeId × Value → H} {W : World} {m : Nat} {cs : List Value} {x : DataW H × List MemPlace} (hf : DataW.trod enc Try.prog W 0 (fun _ => true) true m 25 cs = some x) : ∃ a b : List Int, K8 a ∧ K8 b ∧ cs = k8 a ++ (k8 b ++ []) := by
  obtain ⟨xs, n, _, rfl, hl, hlen, hfld⟩ := DataW.trod_struct Try.underlying25 hf
  rw [cPrA] at hl
  match xs, hlen with
  | [y0, y1], _ =>
  have f0 : DataW.trod enc Try.prog W 0 (fun _ => true) true n 23 ((cs.drop 0).take (Try.prog.cellsOf 23)) = some y0 := hfld 0 _ rfl
  have f1 : DataW.trod enc Try.prog W 0 (fun _ => true) true n 23 ((cs.drop 32).take (Try.prog.cellsOf 23)) = some y1 := hfld 1 _ rfl
  simp only [cKeyA] at f0 f1
  obtain ⟨a, ha, e0⟩ := cells_k8 f0
  obtain ⟨b, hb, e1⟩ := cells_k8 f1
  refine ⟨a, b, ha, hb, ?_⟩
  have z : cs.drop 64 = [] := List.drop_eq_nil_of_le (by omega)
  exact glue e0 (glue e1 z)
theorem cBnA : Try.prog.cellsOf 29 = 97 := by kernel_rfl
theorem bn_of_trod {H : Type} {enc : TypeId × Value → H} {W : World} {m : Nat} {cs : List Value} {x : DataW H × List MemPlace} (hf : DataW.trod enc Try.prog W 0 (fun _ => true) true m 29 cs = some x) : ∃ (i s o : List Int) (h : Bool), K8 i ∧ K8 s ∧ K8 o ∧ cs = (brow i s o h).toList := by
  obtain ⟨xs, n, _, rfl, hl, hlen, hfld⟩ := DataW.trod_struct Try.underlying29 hf
  rw [cBnA] at hl
  match xs, hlen with
  | [y0, y1, y2, y3], _ =>
  have f0 : DataW.trod enc Try.prog W 0 (fun _ => true) true n 23 ((cs.drop 0).take (Try.prog.cellsOf 23)) = some y0 := hfld 0 _ rfl
  rw [cKeyA] at f0
  have f1 : DataW.trod enc Try.prog W 0 (fun _ => true) true n 23 ((cs.drop 32).take (Try.prog.cellsOf 23)) = some y1 := hfld 1 _ rfl
  rw [cKeyA] at f1
  have f2 : DataW.trod enc Try.prog W 0 (fun _ => true) true n 23 ((cs.drop 64).take (Try.prog.cellsOf 23)) = some y2 := hfld 2 _ rfl
  rw [cKeyA] at f2
  have f3 : DataW.trod enc Try.prog W 0 (fun _ => true) true n 4 ((cs.drop 96).take (Try.prog.cellsOf 4)) = some y3 := hfld 3 _ rfl
  rw [cBoA] at f3
  obtain ⟨i, k_i, e0⟩ := cells_k8 f0
  obtain ⟨s, k_s, e1⟩ := cells_k8 f1
  obtain ⟨o, k_o, e2⟩ := cells_k8 f2
  obtain ⟨h, e3, _⟩ := DataW.trod_bool Try.underlying4 f3
  refine ⟨i, s, o, h, k_i, k_s, k_o, ?_⟩
  have z : cs.drop 97 = [] := List.drop_eq_nil_of_le (by omega)
  have a3 := glue e3 z
  have a2 := glue e2 a3
  have a1 := glue e1 a2
  have a0 := glue e0 a1
  rw [List.drop_zero] at a0
  rw [a0]
  simp [brow]
theorem cPsA : Try.prog.cellsOf 27 = 193 := by kernel_rfl
theorem ps_of_trod {H : Type} {enc : TypeId × Value → H} {W : World} {m : Nat} {cs : List Value} {x : DataW H × List MemPlace} (hf : DataW.trod enc Try.prog W 0 (fun _ => true) true m 27 cs = some x) : ∃ (ia ib sa sb oa ob : List Int) (h : Bool), K8 ia ∧ K8 ib ∧ K8 sa ∧ K8 sb ∧ K8 oa ∧ K8 ob ∧ cs = (psrow ia ib sa sb oa ob h).toList := by
  obtain ⟨xs, n, _, rfl, hl, hlen, hfld⟩ := DataW.trod_struct Try.underlying27 hf
  rw [cPsA] at hl
  match xs, hlen with
  | [y0, y1, y2, y3], _ =>
  have f0 : DataW.trod enc Try.prog W 0 (fun _ => true) true n 25 ((cs.drop 0).take (Try.prog.cellsOf 25)) = some y0 := hfld 0 _ rfl
  rw [cPrA] at f0
  have f1 : DataW.trod enc Try.prog W 0 (fun _ => true) true n 25 ((cs.drop 64).take (Try.prog.cellsOf 25)) = some y1 := hfld 1 _ rfl
  rw [cPrA] at f1
  have f2 : DataW.trod enc Try.prog W 0 (fun _ => true) true n 25 ((cs.drop 128).take (Try.prog.cellsOf 25)) = some y2 := hfld 2 _ rfl
  rw [cPrA] at f2
  have f3 : DataW.trod enc Try.prog W 0 (fun _ => true) true n 4 ((cs.drop 192).take (Try.prog.cellsOf 4)) = some y3 := hfld 3 _ rfl
  rw [cBoA] at f3
  obtain ⟨ia, ib, k_ia, k_ib, e0⟩ := pr_of_trod f0
  obtain ⟨sa, sb, k_sa, k_sb, e1⟩ := pr_of_trod f1
  obtain ⟨oa, ob, k_oa, k_ob, e2⟩ := pr_of_trod f2
  obtain ⟨h, e3, _⟩ := DataW.trod_bool Try.underlying4 f3
  refine ⟨ia, ib, sa, sb, oa, ob, h, k_ia, k_ib, k_sa, k_sb, k_oa, k_ob, ?_⟩
  have z : cs.drop 193 = [] := List.drop_eq_nil_of_le (by omega)
  have a3 := glue e3 z
  have a2 := glue e2 a3
  have a1 := glue e1 a2
  have a0 := glue e0 a1
  rw [List.drop_zero] at a0
  rw [a0]
  simp [psrow]

end Go.Proofs.Ytgbkbcgjagcgbaa
