import Derived.Test.YtjofbnilhkmpeaaDoorRtk
import Derived.Test.YtjofbnilhkmpeaaDoorRtn
namespace Go.Proofs.YtjofbnilhkmpeaaDoor
set_option maxRecDepth 100000
open Go Go.RowKit Go.Sort Go.ChangeShapes Go.WideShapes Go.Deep

theorem cBgA : Tryd.prog.cellsOf 29 = 198 := by kernel_rfl
theorem bgn_of_trod {H : Type} {enc : TypeId × Value → H} {W : World} {m : Nat} {cs : List Value} {x : DataW H × List MemPlace} (hf : DataW.trod enc Tryd.prog W 0 (fun _ => true) true m 29 cs = some x) : ∃ b : Bgn, b.ok ∧ cs = bgl b := by
  obtain ⟨xs, n, _, rfl, hl, hlen, hfld⟩ := DataW.trod_struct Tryd.underlying29 hf
  rw [cBgA] at hl
  match xs, hlen with
  | [y0, y1, y2, y3, y4, y5, y6], _ =>
  have f0 : DataW.trod enc Tryd.prog W 0 (fun _ => true) true n 23 ((cs.drop 0).take (Tryd.prog.cellsOf 23)) = some y0 := hfld 0 _ rfl
  rw [cKeyA] at f0
  have f1 : DataW.trod enc Tryd.prog W 0 (fun _ => true) true n 23 ((cs.drop 32).take (Tryd.prog.cellsOf 23)) = some y1 := hfld 1 _ rfl
  rw [cKeyA] at f1
  have f2 : DataW.trod enc Tryd.prog W 0 (fun _ => true) true n 23 ((cs.drop 64).take (Tryd.prog.cellsOf 23)) = some y2 := hfld 2 _ rfl
  rw [cKeyA] at f2
  have f3 : DataW.trod enc Tryd.prog W 0 (fun _ => true) true n 25 ((cs.drop 96).take (Tryd.prog.cellsOf 25)) = some y3 := hfld 3 _ rfl
  rw [cPrA] at f3
  have f4 : DataW.trod enc Tryd.prog W 0 (fun _ => true) true n 23 ((cs.drop 160).take (Tryd.prog.cellsOf 23)) = some y4 := hfld 4 _ rfl
  rw [cKeyA] at f4
  have f5 : DataW.trod enc Tryd.prog W 0 (fun _ => true) true n 27 ((cs.drop 192).take (Tryd.prog.cellsOf 27)) = some y5 := hfld 5 _ rfl
  rw [cCfA] at f5
  have f6 : DataW.trod enc Tryd.prog W 0 (fun _ => true) true n 27 ((cs.drop 195).take (Tryd.prog.cellsOf 27)) = some y6 := hfld 6 _ rfl
  rw [cCfA] at f6
  obtain ⟨sh, k_sh, e0⟩ := cells_k8 f0
  obtain ⟨hA, k_hA, e1⟩ := cells_k8 f1
  obtain ⟨hB, k_hB, e2⟩ := cells_k8 f2
  obtain ⟨opr, opu, k_opr, k_opu, e3⟩ := pr_of_trod f3
  obtain ⟨pe, k_pe, e4⟩ := cells_k8 f4
  obtain ⟨av, ak, ac, e5⟩ := cf_of_trod f5
  obtain ⟨bv, bk, bc, e6⟩ := cf_of_trod f6
  refine ⟨⟨sh, hA, hB, opr, opu, pe, av, ak, ac, bv, bk, bc⟩, ⟨k_sh.1, k_hA.1, k_hB.1, k_opr.1, k_opu.1, k_pe.1, k_opr⟩, ?_⟩
  have z : cs.drop 198 = [] := List.drop_eq_nil_of_le (by omega)
  have a6 := glue e6 z
  have a5 := glue e5 a6
  have a4 := glue e4 a5
  have a3 := glue e3 a4
  have a2 := glue e2 a3
  have a1 := glue e1 a2
  have a0 := glue e0 a1
  rw [List.drop_zero] at a0
  rw [a0]
  simp only [bgl, List.append_assoc, List.nil_append]
end Go.Proofs.YtjofbnilhkmpeaaDoor
