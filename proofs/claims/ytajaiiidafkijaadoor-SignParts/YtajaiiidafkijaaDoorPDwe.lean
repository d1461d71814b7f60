import Derived.Test.YtajaiiidafkijaaDoorProg
import Derived.WalkKit
import Derived.WalkSpells
import Derived.WalkLawsBesides
import Derived.Lib.QuietBelow
import Derived.BigQuiet
import Derived.Test.YtajaiiidafkijaaDoorPKa
import Derived.Test.YtajaiiidafkijaaDoorPDwd
import Derived.Test.YtajaiiidafkijaaDoorPGs
namespace Go.Proofs.YtajaiiidafkijaaDoor
set_option maxRecDepth 100000
open Go.RowKit Go.Sort
attribute [local go_sem] setCell_drewN alloc_drewN
def WpStay (p : Prop) : Prop := p
theorem wpList_stay {P : Program} {ops : Array Oper} {rest : List Oper} {a : Act} {w : World} {Q : Exit → Act → World → Prop} (h : WpStay (wpList P ops Q rest a w)) : wpList P ops Q rest a w := h
theorem run_loadVar_int {P : Program} (w : World) (g o : Nat) (ty : TypeId) (v : Value) (hc : w.cell? ⟨g, o, none⟩ = some v) {k : IntKind} (hu : P.underlying ty = some (.int k)) : (loadVar ty ⟨g, o, none⟩).run P w = .ok v w := by
 simp [loadVar, isAgg, run_underlying hu, hc, go_sem]
theorem wpList_load_cell31 {P : Program} {ops : Array Oper} {rest : List Oper} {o : Oper} {a : Act} {w : World} {Q : Exit → Act → World → Prop} (hw : Region.wanted o (yielded ops a.tmps) = true) (ty : TypeId) (x : Operand) (ho : o.op = .load ty x)
 (g off : Nat) (hx : a.eval x = .pointer (some ⟨g, off, none⟩)) (v : Value) (hc : w.cell? ⟨g, off, none⟩ = some v) {k : IntKind} (hu : P.underlying ty = some (.int k))
 (h : wpList P ops Q rest (a.put o.dst v) w) : wpList P ops Q (o :: rest) a w := by
 refine BigFrame.wpList_want hw fun _ hK => ?_
 unfold Oper.wp execOp
 simp only [ho, hx, Instr.loadAt, Instr.sureAddr, Sem.run_bind, Sem.run_pure, Result.andThen_ok, run_loadVar_int w g off ty v hc hu]
 exact hK _ _ h
theorem wpList_store_cell31 {P : Program} {ops : Array Oper} {rest : List Oper} {o : Oper} {a : Act} {w : World} {Q : Exit → Act → World → Prop} (hgd : o.guard = none) (ty : TypeId) (x y : Operand) (ho : o.op = .store ty x y)
 (g off : Nat) (hx : a.eval x = .pointer (some ⟨g, off, none⟩)) (v : Value) (hy : a.eval y = v)
 (t : TypeId) (old : Array Value) (hg : w.heap[g]? = some (.cells old t (0, 0))) (hle : off < old.size) (hi : (P.info? ty).map (·.size) = some 1) (h1 : v.oneCell' = true)
 (h : wpList P ops Q rest (a.put o.dst undef) (w.setRow g (old.setIfInBounds off v))) : wpList P ops Q (o :: rest) a w := by
 refine wpList_plain hgd fun _ hK => ?_
 have hs := run_storeVar_mid (P := P) w g off ty #[v] (there_row hg (by simp; omega)) (by simpa using hi) (by simpa using h1)
 have e : w.setCells g off [v] = w.setRow g (old.setIfInBounds off v) := setCells_eq [v] off w old hg
 have hs' : (storeVar ty ⟨g, off, none⟩ v).run P w = .ok () (w.setRow g (old.setIfInBounds off v)) := by
  rw [← e]
  cases v <;> first | (simp [Value.oneCell'] at h1; done) | exact hs
 unfold Oper.wp execOp
 simp only [ho, hx, hy, Instr.storeAt, Instr.sureAddr, Sem.run_bind, Sem.run_pure, Result.andThen_ok, hs']
 exact hK _ _ h
theorem all32' {k0 : Int} {k1 : Int} {k2 : Int} {k3 : Int} {k4 : Int} {k5 : Int} {k6 : Int} {k7 : Int} {k8 : Int} {k9 : Int} {k10 : Int} {k11 : Int} {k12 : Int} {k13 : Int} {k14 : Int} {k15 : Int} {k16 : Int} {k17 : Int} {k18 : Int} {k19 : Int} {k20 : Int} {k21 : Int} {k22 : Int} {k23 : Int} {k24 : Int} {k25 : Int} {k26 : Int} {k27 : Int} {k28 : Int} {k29 : Int} {k30 : Int} {k31 : Int} (h0 : 0 ≤ k0 ∧ k0 < 256) (h1 : 0 ≤ k1 ∧ k1 < 256) (h2 : 0 ≤ k2 ∧ k2 < 256) (h3 : 0 ≤ k3 ∧ k3 < 256) (h4 : 0 ≤ k4 ∧ k4 < 256) (h5 : 0 ≤ k5 ∧ k5 < 256) (h6 : 0 ≤ k6 ∧ k6 < 256) (h7 : 0 ≤ k7 ∧ k7 < 256) (h8 : 0 ≤ k8 ∧ k8 < 256) (h9 : 0 ≤ k9 ∧ k9 < 256) (h10 : 0 ≤ k10 ∧ k10 < 256) (h11 : 0 ≤ k11 ∧ k11 < 256) (h12 : 0 ≤ k12 ∧ k12 < 256) (h13 : 0 ≤ k13 ∧ k13 < 256) (h14 : 0 ≤ k14 ∧ k14 < 256) (h15 : 0 ≤ k15 ∧ k15 < 256) (h16 : 0 ≤ k16 ∧ k16 < 256) (h17 : 0 ≤ k17 ∧ k17 < 256) (h18 : 0 ≤ k18 ∧ k18 < 256) (h19 : 0 ≤ k19 ∧ k19 < 256) (h20 : 0 ≤ k20 ∧ k20 < 256) (h21 : 0 ≤ k21 ∧ k21 < 256) (h22 : 0 ≤ k22 ∧ k22 < 256) (h23 : 0 ≤ k23 ∧ k23 < 256) (h24 : 0 ≤ k24 ∧ k24 < 256) (h25 : 0 ≤ k25 ∧ k25 < 256) (h26 : 0 ≤ k26 ∧ k26 < 256) (h27 : 0 ≤ k27 ∧ k27 < 256) (h28 : 0 ≤ k28 ∧ k28 < 256) (h29 : 0 ≤ k29 ∧ k29 < 256) (h30 : 0 ≤ k30 ∧ k30 < 256) (h31 : 0 ≤ k31 ∧ k31 < 256) : ∀ z ∈ [k0, k1, k2, k3, k4, k5, k6, k7, k8, k9, k10, k11, k12, k13, k14, k15, k16, k17, k18, k19, k20, k21, k22, k23, k24, k25, k26, k27, k28, k29, k30, k31], 0 ≤ z ∧ z < 256 := by
 intro z hz
 simp only [List.mem_cons, List.not_mem_nil, or_false] at hz
 rcases hz with rfl | rfl | rfl | rfl | rfl | rfl | rfl | rfl | rfl | rfl | rfl | rfl | rfl | rfl | rfl | rfl | rfl | rfl | rfl | rfl | rfl | rfl | rfl | rfl | rfl | rfl | rfl | rfl | rfl | rfl | rfl | rfl <;> assumption
theorem key_is {r : Array Value} {N : Int} (h : KeyOf r N) : r = kb N := by
 obtain ⟨k0, k1, k2, k3, k4, k5, k6, k7, k8, k9, k10, k11, k12, k13, k14, k15, k16, k17, k18, k19, k20, k21, k22, k23, k24, k25, k26, k27, k28, k29, k30, k31, rfl, ⟨h0, h1, h2, h3, h4, h5, h6, h7, h8, h9, h10, h11, h12, h13, h14, h15, h16, h17, h18, h19, h20, h21, h22, h23, h24, h25, h26, h27, h28, h29, h30, h31⟩, rfl⟩ := h
 have hb := all32' h0 h1 h2 h3 h4 h5 h6 h7 h8 h9 h10 h11 h12 h13 h14 h15 h16 h17 h18 h19 h20 h21 h22 h23 h24 h25 h26 h27 h28 h29 h30 h31
 unfold kb
 rw [show byt (kv k0 k1 k2 k3 k4 k5 k6 k7 k8 k9 k10 k11 k12 k13 k14 k15 k16 k17 k18 k19 k20 k21 k22 k23 k24 k25 k26 k27 k28 k29 k30 k31) 0 = k0 from byt_valB _ hb 0 (by simp), show byt (kv k0 k1 k2 k3 k4 k5 k6 k7 k8 k9 k10 k11 k12 k13 k14 k15 k16 k17 k18 k19 k20 k21 k22 k23 k24 k25 k26 k27 k28 k29 k30 k31) 1 = k1 from byt_valB _ hb 1 (by simp), show byt (kv k0 k1 k2 k3 k4 k5 k6 k7 k8 k9 k10 k11 k12 k13 k14 k15 k16 k17 k18 k19 k20 k21 k22 k23 k24 k25 k26 k27 k28 k29 k30 k31) 2 = k2 from byt_valB _ hb 2 (by simp), show byt (kv k0 k1 k2 k3 k4 k5 k6 k7 k8 k9 k10 k11 k12 k13 k14 k15 k16 k17 k18 k19 k20 k21 k22 k23 k24 k25 k26 k27 k28 k29 k30 k31) 3 = k3 from byt_valB _ hb 3 (by simp), show byt (kv k0 k1 k2 k3 k4 k5 k6 k7 k8 k9 k10 k11 k12 k13 k14 k15 k16 k17 k18 k19 k20 k21 k22 k23 k24 k25 k26 k27 k28 k29 k30 k31) 4 = k4 from byt_valB _ hb 4 (by simp), show byt (kv k0 k1 k2 k3 k4 k5 k6 k7 k8 k9 k10 k11 k12 k13 k14 k15 k16 k17 k18 k19 k20 k21 k22 k23 k24 k25 k26 k27 k28 k29 k30 k31) 5 = k5 from byt_valB _ hb 5 (by simp), show byt (kv k0 k1 k2 k3 k4 k5 k6 k7 k8 k9 k10 k11 k12 k13 k14 k15 k16 k17 k18 k19 k20 k21 k22 k23 k24 k25 k26 k27 k28 k29 k30 k31) 6 = k6 from byt_valB _ hb 6 (by simp), show byt (kv k0 k1 k2 k3 k4 k5 k6 k7 k8 k9 k10 k11 k12 k13 k14 k15 k16 k17 k18 k19 k20 k21 k22 k23 k24 k25 k26 k27 k28 k29 k30 k31) 7 = k7 from byt_valB _ hb 7 (by simp), show byt (kv k0 k1 k2 k3 k4 k5 k6 k7 k8 k9 k10 k11 k12 k13 k14 k15 k16 k17 k18 k19 k20 k21 k22 k23 k24 k25 k26 k27 k28 k29 k30 k31) 8 = k8 from byt_valB _ hb 8 (by simp), show byt (kv k0 k1 k2 k3 k4 k5 k6 k7 k8 k9 k10 k11 k12 k13 k14 k15 k16 k17 k18 k19 k20 k21 k22 k23 k24 k25 k26 k27 k28 k29 k30 k31) 9 = k9 from byt_valB _ hb 9 (by simp), show byt (kv k0 k1 k2 k3 k4 k5 k6 k7 k8 k9 k10 k11 k12 k13 k14 k15 k16 k17 k18 k19 k20 k21 k22 k23 k24 k25 k26 k27 k28 k29 k30 k31) 10 = k10 from byt_valB _ hb 10 (by simp), show byt (kv k0 k1 k2 k3 k4 k5 k6 k7 k8 k9 k10 k11 k12 k13 k14 k15 k16 k17 k18 k19 k20 k21 k22 k23 k24 k25 k26 k27 k28 k29 k30 k31) 11 = k11 from byt_valB _ hb 11 (by simp), show byt (kv k0 k1 k2 k3 k4 k5 k6 k7 k8 k9 k10 k11 k12 k13 k14 k15 k16 k17 k18 k19 k20 k21 k22 k23 k24 k25 k26 k27 k28 k29 k30 k31) 12 = k12 from byt_valB _ hb 12 (by simp), show byt (kv k0 k1 k2 k3 k4 k5 k6 k7 k8 k9 k10 k11 k12 k13 k14 k15 k16 k17 k18 k19 k20 k21 k22 k23 k24 k25 k26 k27 k28 k29 k30 k31) 13 = k13 from byt_valB _ hb 13 (by simp), show byt (kv k0 k1 k2 k3 k4 k5 k6 k7 k8 k9 k10 k11 k12 k13 k14 k15 k16 k17 k18 k19 k20 k21 k22 k23 k24 k25 k26 k27 k28 k29 k30 k31) 14 = k14 from byt_valB _ hb 14 (by simp), show byt (kv k0 k1 k2 k3 k4 k5 k6 k7 k8 k9 k10 k11 k12 k13 k14 k15 k16 k17 k18 k19 k20 k21 k22 k23 k24 k25 k26 k27 k28 k29 k30 k31) 15 = k15 from byt_valB _ hb 15 (by simp), show byt (kv k0 k1 k2 k3 k4 k5 k6 k7 k8 k9 k10 k11 k12 k13 k14 k15 k16 k17 k18 k19 k20 k21 k22 k23 k24 k25 k26 k27 k28 k29 k30 k31) 16 = k16 from byt_valB _ hb 16 (by simp), show byt (kv k0 k1 k2 k3 k4 k5 k6 k7 k8 k9 k10 k11 k12 k13 k14 k15 k16 k17 k18 k19 k20 k21 k22 k23 k24 k25 k26 k27 k28 k29 k30 k31) 17 = k17 from byt_valB _ hb 17 (by simp), show byt (kv k0 k1 k2 k3 k4 k5 k6 k7 k8 k9 k10 k11 k12 k13 k14 k15 k16 k17 k18 k19 k20 k21 k22 k23 k24 k25 k26 k27 k28 k29 k30 k31) 18 = k18 from byt_valB _ hb 18 (by simp), show byt (kv k0 k1 k2 k3 k4 k5 k6 k7 k8 k9 k10 k11 k12 k13 k14 k15 k16 k17 k18 k19 k20 k21 k22 k23 k24 k25 k26 k27 k28 k29 k30 k31) 19 = k19 from byt_valB _ hb 19 (by simp), show byt (kv k0 k1 k2 k3 k4 k5 k6 k7 k8 k9 k10 k11 k12 k13 k14 k15 k16 k17 k18 k19 k20 k21 k22 k23 k24 k25 k26 k27 k28 k29 k30 k31) 20 = k20 from byt_valB _ hb 20 (by simp), show byt (kv k0 k1 k2 k3 k4 k5 k6 k7 k8 k9 k10 k11 k12 k13 k14 k15 k16 k17 k18 k19 k20 k21 k22 k23 k24 k25 k26 k27 k28 k29 k30 k31) 21 = k21 from byt_valB _ hb 21 (by simp), show byt (kv k0 k1 k2 k3 k4 k5 k6 k7 k8 k9 k10 k11 k12 k13 k14 k15 k16 k17 k18 k19 k20 k21 k22 k23 k24 k25 k26 k27 k28 k29 k30 k31) 22 = k22 from byt_valB _ hb 22 (by simp), show byt (kv k0 k1 k2 k3 k4 k5 k6 k7 k8 k9 k10 k11 k12 k13 k14 k15 k16 k17 k18 k19 k20 k21 k22 k23 k24 k25 k26 k27 k28 k29 k30 k31) 23 = k23 from byt_valB _ hb 23 (by simp), show byt (kv k0 k1 k2 k3 k4 k5 k6 k7 k8 k9 k10 k11 k12 k13 k14 k15 k16 k17 k18 k19 k20 k21 k22 k23 k24 k25 k26 k27 k28 k29 k30 k31) 24 = k24 from byt_valB _ hb 24 (by simp), show byt (kv k0 k1 k2 k3 k4 k5 k6 k7 k8 k9 k10 k11 k12 k13 k14 k15 k16 k17 k18 k19 k20 k21 k22 k23 k24 k25 k26 k27 k28 k29 k30 k31) 25 = k25 from byt_valB _ hb 25 (by simp), show byt (kv k0 k1 k2 k3 k4 k5 k6 k7 k8 k9 k10 k11 k12 k13 k14 k15 k16 k17 k18 k19 k20 k21 k22 k23 k24 k25 k26 k27 k28 k29 k30 k31) 26 = k26 from byt_valB _ hb 26 (by simp), show byt (kv k0 k1 k2 k3 k4 k5 k6 k7 k8 k9 k10 k11 k12 k13 k14 k15 k16 k17 k18 k19 k20 k21 k22 k23 k24 k25 k26 k27 k28 k29 k30 k31) 27 = k27 from byt_valB _ hb 27 (by simp), show byt (kv k0 k1 k2 k3 k4 k5 k6 k7 k8 k9 k10 k11 k12 k13 k14 k15 k16 k17 k18 k19 k20 k21 k22 k23 k24 k25 k26 k27 k28 k29 k30 k31) 28 = k28 from byt_valB _ hb 28 (by simp), show byt (kv k0 k1 k2 k3 k4 k5 k6 k7 k8 k9 k10 k11 k12 k13 k14 k15 k16 k17 k18 k19 k20 k21 k22 k23 k24 k25 k26 k27 k28 k29 k30 k31) 29 = k29 from byt_valB _ hb 29 (by simp), show byt (kv k0 k1 k2 k3 k4 k5 k6 k7 k8 k9 k10 k11 k12 k13 k14 k15 k16 k17 k18 k19 k20 k21 k22 k23 k24 k25 k26 k27 k28 k29 k30 k31) 30 = k30 from byt_valB _ hb 30 (by simp), show byt (kv k0 k1 k2 k3 k4 k5 k6 k7 k8 k9 k10 k11 k12 k13 k14 k15 k16 k17 k18 k19 k20 k21 k22 k23 k24 k25 k26 k27 k28 k29 k30 k31) 31 = k31 from byt_valB _ hb 31 (by simp)]
theorem key_top {r : Array Value} {N : Int} (h : KeyOf r N) : byt N 31 = N / 452312848583266388373324160190187140051835877600158453279131187530910662656 ∧ ∀ b, 0 ≤ b ∧ b < 256 → r.setIfInBounds 31 (.int .u8 b) = kb (N % 452312848583266388373324160190187140051835877600158453279131187530910662656 + 452312848583266388373324160190187140051835877600158453279131187530910662656 * b) := by
 obtain ⟨k0, k1, k2, k3, k4, k5, k6, k7, k8, k9, k10, k11, k12, k13, k14, k15, k16, k17, k18, k19, k20, k21, k22, k23, k24, k25, k26, k27, k28, k29, k30, k31, rfl, ⟨h0, h1, h2, h3, h4, h5, h6, h7, h8, h9, h10, h11, h12, h13, h14, h15, h16, h17, h18, h19, h20, h21, h22, h23, h24, h25, h26, h27, h28, h29, h30, h31⟩, rfl⟩ := h
 have hb := all32' h0 h1 h2 h3 h4 h5 h6 h7 h8 h9 h10 h11 h12 h13 h14 h15 h16 h17 h18 h19 h20 h21 h22 h23 h24 h25 h26 h27 h28 h29 h30 h31
 have e : ∀ x, kv k0 k1 k2 k3 k4 k5 k6 k7 k8 k9 k10 k11 k12 k13 k14 k15 k16 k17 k18 k19 k20 k21 k22 k23 k24 k25 k26 k27 k28 k29 k30 x = valB [k0, k1, k2, k3, k4, k5, k6, k7, k8, k9, k10, k11, k12, k13, k14, k15, k16, k17, k18, k19, k20, k21, k22, k23, k24, k25, k26, k27, k28, k29, k30] + 452312848583266388373324160190187140051835877600158453279131187530910662656 * x := by intro x; simp only [kv, valB]; omega
 have b31 : 0 ≤ valB [k0, k1, k2, k3, k4, k5, k6, k7, k8, k9, k10, k11, k12, k13, k14, k15, k16, k17, k18, k19, k20, k21, k22, k23, k24, k25, k26, k27, k28, k29, k30] ∧ valB [k0, k1, k2, k3, k4, k5, k6, k7, k8, k9, k10, k11, k12, k13, k14, k15, k16, k17, k18, k19, k20, k21, k22, k23, k24, k25, k26, k27, k28, k29, k30] < 452312848583266388373324160190187140051835877600158453279131187530910662656 := by simp only [valB]; omega
 refine ⟨?_, fun b hbb => ?_⟩
 ·rw [show byt (kv k0 k1 k2 k3 k4 k5 k6 k7 k8 k9 k10 k11 k12 k13 k14 k15 k16 k17 k18 k19 k20 k21 k22 k23 k24 k25 k26 k27 k28 k29 k30 k31) 31 = k31 from byt_valB _ hb 31 (by simp), e]; omega
 ·have hN : kv k0 k1 k2 k3 k4 k5 k6 k7 k8 k9 k10 k11 k12 k13 k14 k15 k16 k17 k18 k19 k20 k21 k22 k23 k24 k25 k26 k27 k28 k29 k30 k31 % 452312848583266388373324160190187140051835877600158453279131187530910662656 + 452312848583266388373324160190187140051835877600158453279131187530910662656 * b = kv k0 k1 k2 k3 k4 k5 k6 k7 k8 k9 k10 k11 k12 k13 k14 k15 k16 k17 k18 k19 k20 k21 k22 k23 k24 k25 k26 k27 k28 k29 k30 b := by rw [e, e]; omega
  rw [hN]
  exact key_is ⟨_, _, _, _, _, _, _, _, _, _, _, _, _, _, _, _, _, _, _, _, _, _, _, _, _, _, _, _, _, _, _, _, rfl, ⟨h0, h1, h2, h3, h4, h5, h6, h7, h8, h9, h10, h11, h12, h13, h14, h15, h16, h17, h18, h19, h20, h21, h22, h23, h24, h25, h26, h27, h28, h29, h30, hbb⟩, rfl⟩
theorem kb_top (N : Int) (h0 : 0 ≤ N) (h1 : N < 115792089237316195423570985008687907853269984665640564039457584007913129639936) : byt N 31 = N / 452312848583266388373324160190187140051835877600158453279131187530910662656 ∧ ∀ b, 0 ≤ b ∧ b < 256 → (kb N).setIfInBounds 31 (.int .u8 b) = kb (N % 452312848583266388373324160190187140051835877600158453279131187530910662656 + 452312848583266388373324160190187140051835877600158453279131187530910662656 * b) := key_top (kb_key N h0 h1)
theorem or128 (x : Int) (h : 0 ≤ x ∧ x < 128) : bits .or .u8 x 128 = x + 128 := by
 obtain ⟨n, rfl⟩ := Int.eq_ofNat_of_zero_le h.1
 have : ∀ n : Nat, n < 128 → bits .or .u8 (n : Int) 128 = (n : Int) + 128 := by decide +kernel
 exact this n (by omega)
theorem and128 (x : Int) (h : 0 ≤ x ∧ x < 256) : bits .and .u8 x 128 = if 128 ≤ x then 128 else 0 := by
 obtain ⟨n, rfl⟩ := Int.eq_ofNat_of_zero_le h.1
 have : ∀ n : Nat, n < 256 → bits .and .u8 (n : Int) 128 = if 128 ≤ (n : Int) then 128 else 0 := by decide +kernel
 exact this n (by omega)
theorem andNot128 (x : Int) (h : 0 ≤ x ∧ x < 256) : bits .andNot .u8 x 128 = x % 128 := by
 obtain ⟨n, rfl⟩ := Int.eq_ofNat_of_zero_le h.1
 have : ∀ n : Nat, n < 256 → bits .andNot .u8 (n : Int) 128 = (n : Int) % 128 := by decide +kernel
 exact this n (by omega)
def eqb (P Q : E1) : Bool := decide (tx P = tx Q ∧ P.y = Q.y)
theorem eqb_iff (P Q : E1) : eqb P Q = true ↔ P = Q := by
 unfold eqb
 rw [decide_eq_true_iff]
 exact ⟨fun h => E1.eq' h.1 h.2, fun h => by subst h; exact ⟨rfl, rfl⟩⟩
theorem a_sel {r s : Array Value} {x y : Int} (h : NumOf r x) (g : NumOf s y) (on : Bool) : ∃ p q, NumOf p (if on = true then y else x) ∧ Gives 119 #[.agg r, .agg s, .bool on] (.tuple #[.agg p, .agg q]) :=
 ⟨_, _, by cases on <;> assumption, a_swap h g on⟩
set_option maxRecDepth 100000 in
set_option maxHeartbeats 8000000 in
theorem a_or {r s : Array Value} {P Q : E1} (h : SpO r P) (g : SpO s Q) (on : Bool) : ∃ t, SpO t (if on = true then Q else P) ∧ Gives 112 #[.agg r, .agg s, .bool on] (.agg t) := by
 obtain ⟨xr, yr, zr, tr, X, Y, Z, T, rfl, hx, hy, hz, ht, hP⟩ := h
 obtain ⟨ur, vr, wr, sr, X2, Y2, Z2, T2, rfl, hu, hv, hww, hs, hQ⟩ := g
 obtain ⟨x1, y1, h1, c1⟩ := a_sel hx hu on
 obtain ⟨x3, y3, h3, c3⟩ := a_sel hy hv on
 obtain ⟨x5, y5, h5, c5⟩ := a_sel hz hww on
 obtain ⟨x7, y7, h7, c7⟩ := a_sel ht hs on
 refine ⟨_, ⟨x1, x3, x5, x7, _, _, _, _, rfl, h1, h3, h5, h7, by cases on <;> assumption⟩, fun w => ?_⟩
 have rp0 : (((w.alloc (.cells (r4 xr yr zr tr) 101)).alloc (.cells (r4 ur vr wr sr) 101)).alloc (.cells q20 101)).heap[w.heap.size]? = some (.cells (r4 xr yr zr tr) 101 (0, 0)) := hp3_0 w _ _ _
 have rp1 : (((w.alloc (.cells (r4 xr yr zr tr) 101)).alloc (.cells (r4 ur vr wr sr) 101)).alloc (.cells q20 101)).heap[w.heap.size + 1]? = some (.cells (r4 ur vr wr sr) 101 (0, 0)) := hp3_1 w _ _ _
 have rp2 : (((w.alloc (.cells (r4 xr yr zr tr) 101)).alloc (.cells (r4 ur vr wr sr) 101)).alloc (.cells q20 101)).heap[w.heap.size + 1 + 1]? = some (.cells q20 101 (0, 0)) := hp3_2 w _ _ _
 have hw : Below w.heap.size w (((w.alloc (.cells (r4 xr yr zr tr) 101)).alloc (.cells (r4 ur vr wr sr) 101)).alloc (.cells q20 101)) := ((((Below.refl _ _).alloc (Nat.le_refl _) _).alloc (by simp) _).alloc (by simp; omega) _)
 go_enter Tryd.func112, Tryd.ntmps112
 iterate 12 go_step
 generalize (((w.alloc (.cells (r4 xr yr zr tr) 101)).alloc (.cells (r4 ur vr wr sr) 101)).alloc (.cells q20 101)) = w0 at *
 go_wp2_with (first | (refine wpList_load_want rfl 101 _ rfl (w.heap.size) rfl 101 (r4 xr yr zr tr) (0, 0) _ rp0 Tryd.underlying101 rfl (sp_info hx.size hy.size hz.size ht.size) ?_) | (refine wpList_load_want rfl 101 _ rfl (w.heap.size + 1) rfl 101 (r4 ur vr wr sr) (0, 0) _ rp1 Tryd.underlying101 rfl (sp_info hu.size hv.size hww.size hs.size) ?_) | (refine wpList_load_want rfl 101 _ rfl (w.heap.size + 1 + 1) rfl 101 q20 (0, 0) _ rp2 Tryd.underlying101 rfl (by kernel_rfl) ?_) | (refine wpList_load_part rfl 43 _ rfl (w.heap.size) 0 rfl 101 (r4 xr yr zr tr) (0, 0) xr _ rp0 p_0 Tryd.underlying43 rfl hx.info ?_) | (refine wpList_load_part rfl 43 _ rfl (w.heap.size) 5 rfl 101 (r4 xr yr zr tr) (0, 0) yr _ rp0 (p5_1 hx.size) Tryd.underlying43 rfl hy.info ?_) | (refine wpList_load_part rfl 43 _ rfl (w.heap.size) 10 rfl 101 (r4 xr yr zr tr) (0, 0) zr _ rp0 (p5_2 hx.size hy.size) Tryd.underlying43 rfl hz.info ?_) | (refine wpList_load_part rfl 43 _ rfl (w.heap.size) 15 rfl 101 (r4 xr yr zr tr) (0, 0) tr _ rp0 (p5_3 hx.size hy.size hz.size) Tryd.underlying43 rfl ht.info ?_) | (refine wpList_load_part rfl 43 _ rfl (w.heap.size + 1) 0 rfl 101 (r4 ur vr wr sr) (0, 0) ur _ rp1 p_0 Tryd.underlying43 rfl hu.info ?_) | (refine wpList_load_part rfl 43 _ rfl (w.heap.size + 1) 5 rfl 101 (r4 ur vr wr sr) (0, 0) vr _ rp1 (p5_1 hu.size) Tryd.underlying43 rfl hv.info ?_) | (refine wpList_load_part rfl 43 _ rfl (w.heap.size + 1) 10 rfl 101 (r4 ur vr wr sr) (0, 0) wr _ rp1 (p5_2 hu.size hv.size) Tryd.underlying43 rfl hww.info ?_) | (refine wpList_load_part rfl 43 _ rfl (w.heap.size + 1) 15 rfl 101 (r4 ur vr wr sr) (0, 0) sr _ rp1 (p5_3 hu.size hv.size hww.size) Tryd.underlying43 rfl hs.info ?_) | fail)
 refine (c1.at _).mono ?_
 rintro e w2 ⟨rfl, hb⟩
 replace rp0 := keep hb rp0
 replace rp1 := keep hb rp1
 replace rp2 := keep hb rp2
 replace hw := Below.after hw hb
 clear hb
 go_wp2_with (first | (refine wpList_store_part rfl 43 _ _ rfl (w.heap.size) 0 x1 rfl rfl 101 (r4 xr yr zr tr) (r4 x1 yr zr tr) rp0 (by rw [nums_size hx.size hy.size hz.size ht.size, h1.size]; decide) (ovw_0 hx.size hy.size hz.size ht.size h1.size) h1.info h1.one ?_; refine wpList_stay ?_) | fail)
 unfold WpStay
 replace rp1 := (setRow_other w2 (w.heap.size) (w.heap.size + 1) (r4 x1 yr zr tr) (by first | assumption | omega)).trans rp1
 replace rp2 := (setRow_other w2 (w.heap.size) (w.heap.size + 1 + 1) (r4 x1 yr zr tr) (by first | assumption | omega)).trans rp2
 replace rp0 := setRow_heap w2 (w.heap.size) _ (r4 x1 yr zr tr) _ _ rp0
 replace hw := below_setRow hw (show w.heap.size ≤ w.heap.size by first | assumption | omega) (r4 x1 yr zr tr)
 generalize w2.setRow (w.heap.size) (r4 x1 yr zr tr) = wz0 at *
 go_wp2_with (first | (refine wpList_load_want rfl 101 _ rfl (w.heap.size) rfl 101 (r4 x1 yr zr tr) (0, 0) _ rp0 Tryd.underlying101 rfl (sp_info h1.size hy.size hz.size ht.size) ?_) | (refine wpList_load_want rfl 101 _ rfl (w.heap.size + 1) rfl 101 (r4 ur vr wr sr) (0, 0) _ rp1 Tryd.underlying101 rfl (sp_info hu.size hv.size hww.size hs.size) ?_) | (refine wpList_load_want rfl 101 _ rfl (w.heap.size + 1 + 1) rfl 101 q20 (0, 0) _ rp2 Tryd.underlying101 rfl (by kernel_rfl) ?_) | (refine wpList_load_part rfl 43 _ rfl (w.heap.size) 0 rfl 101 (r4 x1 yr zr tr) (0, 0) x1 _ rp0 p_0 Tryd.underlying43 rfl h1.info ?_) | (refine wpList_load_part rfl 43 _ rfl (w.heap.size) 5 rfl 101 (r4 x1 yr zr tr) (0, 0) yr _ rp0 (p5_1 h1.size) Tryd.underlying43 rfl hy.info ?_) | (refine wpList_load_part rfl 43 _ rfl (w.heap.size) 10 rfl 101 (r4 x1 yr zr tr) (0, 0) zr _ rp0 (p5_2 h1.size hy.size) Tryd.underlying43 rfl hz.info ?_) | (refine wpList_load_part rfl 43 _ rfl (w.heap.size) 15 rfl 101 (r4 x1 yr zr tr) (0, 0) tr _ rp0 (p5_3 h1.size hy.size hz.size) Tryd.underlying43 rfl ht.info ?_) | (refine wpList_load_part rfl 43 _ rfl (w.heap.size + 1) 0 rfl 101 (r4 ur vr wr sr) (0, 0) ur _ rp1 p_0 Tryd.underlying43 rfl hu.info ?_) | (refine wpList_load_part rfl 43 _ rfl (w.heap.size + 1) 5 rfl 101 (r4 ur vr wr sr) (0, 0) vr _ rp1 (p5_1 hu.size) Tryd.underlying43 rfl hv.info ?_) | (refine wpList_load_part rfl 43 _ rfl (w.heap.size + 1) 10 rfl 101 (r4 ur vr wr sr) (0, 0) wr _ rp1 (p5_2 hu.size hv.size) Tryd.underlying43 rfl hww.info ?_) | (refine wpList_load_part rfl 43 _ rfl (w.heap.size + 1) 15 rfl 101 (r4 ur vr wr sr) (0, 0) sr _ rp1 (p5_3 hu.size hv.size hww.size) Tryd.underlying43 rfl hs.info ?_) | fail)
 refine (c3.at _).mono ?_
 rintro e w4 ⟨rfl, hb⟩
 replace rp0 := keep hb rp0
 replace rp1 := keep hb rp1
 replace rp2 := keep hb rp2
 replace hw := Below.after hw hb
 clear hb
 go_wp2_with (first | (refine wpList_store_part rfl 43 _ _ rfl (w.heap.size) 5 x3 rfl rfl 101 (r4 x1 yr zr tr) (r4 x1 x3 zr tr) rp0 (by rw [nums_size h1.size hy.size hz.size ht.size, h3.size]; decide) (ovw_1 h1.size hy.size hz.size ht.size h3.size) h3.info h3.one ?_; refine wpList_stay ?_) | fail)
 unfold WpStay
 replace rp1 := (setRow_other w4 (w.heap.size) (w.heap.size + 1) (r4 x1 x3 zr tr) (by first | assumption | omega)).trans rp1
 replace rp2 := (setRow_other w4 (w.heap.size) (w.heap.size + 1 + 1) (r4 x1 x3 zr tr) (by first | assumption | omega)).trans rp2
 replace rp0 := setRow_heap w4 (w.heap.size) _ (r4 x1 x3 zr tr) _ _ rp0
 replace hw := below_setRow hw (show w.heap.size ≤ w.heap.size by first | assumption | omega) (r4 x1 x3 zr tr)
 generalize w4.setRow (w.heap.size) (r4 x1 x3 zr tr) = wz1 at *
 go_wp2_with (first | (refine wpList_load_want rfl 101 _ rfl (w.heap.size) rfl 101 (r4 x1 x3 zr tr) (0, 0) _ rp0 Tryd.underlying101 rfl (sp_info h1.size h3.size hz.size ht.size) ?_) | (refine wpList_load_want rfl 101 _ rfl (w.heap.size + 1) rfl 101 (r4 ur vr wr sr) (0, 0) _ rp1 Tryd.underlying101 rfl (sp_info hu.size hv.size hww.size hs.size) ?_) | (refine wpList_load_want rfl 101 _ rfl (w.heap.size + 1 + 1) rfl 101 q20 (0, 0) _ rp2 Tryd.underlying101 rfl (by kernel_rfl) ?_) | (refine wpList_load_part rfl 43 _ rfl (w.heap.size) 0 rfl 101 (r4 x1 x3 zr tr) (0, 0) x1 _ rp0 p_0 Tryd.underlying43 rfl h1.info ?_) | (refine wpList_load_part rfl 43 _ rfl (w.heap.size) 5 rfl 101 (r4 x1 x3 zr tr) (0, 0) x3 _ rp0 (p5_1 h1.size) Tryd.underlying43 rfl h3.info ?_) | (refine wpList_load_part rfl 43 _ rfl (w.heap.size) 10 rfl 101 (r4 x1 x3 zr tr) (0, 0) zr _ rp0 (p5_2 h1.size h3.size) Tryd.underlying43 rfl hz.info ?_) | (refine wpList_load_part rfl 43 _ rfl (w.heap.size) 15 rfl 101 (r4 x1 x3 zr tr) (0, 0) tr _ rp0 (p5_3 h1.size h3.size hz.size) Tryd.underlying43 rfl ht.info ?_) | (refine wpList_load_part rfl 43 _ rfl (w.heap.size + 1) 0 rfl 101 (r4 ur vr wr sr) (0, 0) ur _ rp1 p_0 Tryd.underlying43 rfl hu.info ?_) | (refine wpList_load_part rfl 43 _ rfl (w.heap.size + 1) 5 rfl 101 (r4 ur vr wr sr) (0, 0) vr _ rp1 (p5_1 hu.size) Tryd.underlying43 rfl hv.info ?_) | (refine wpList_load_part rfl 43 _ rfl (w.heap.size + 1) 10 rfl 101 (r4 ur vr wr sr) (0, 0) wr _ rp1 (p5_2 hu.size hv.size) Tryd.underlying43 rfl hww.info ?_) | (refine wpList_load_part rfl 43 _ rfl (w.heap.size + 1) 15 rfl 101 (r4 ur vr wr sr) (0, 0) sr _ rp1 (p5_3 hu.size hv.size hww.size) Tryd.underlying43 rfl hs.info ?_) | fail)
 refine (c5.at _).mono ?_
 rintro e w6 ⟨rfl, hb⟩
 replace rp0 := keep hb rp0
 replace rp1 := keep hb rp1
 replace rp2 := keep hb rp2
 replace hw := Below.after hw hb
 clear hb
 go_wp2_with (first | (refine wpList_store_part rfl 43 _ _ rfl (w.heap.size) 10 x5 rfl rfl 101 (r4 x1 x3 zr tr) (r4 x1 x3 x5 tr) rp0 (by rw [nums_size h1.size h3.size hz.size ht.size, h5.size]; decide) (ovw_2 h1.size h3.size hz.size ht.size h5.size) h5.info h5.one ?_; refine wpList_stay ?_) | fail)
 unfold WpStay
 replace rp1 := (setRow_other w6 (w.heap.size) (w.heap.size + 1) (r4 x1 x3 x5 tr) (by first | assumption | omega)).trans rp1
 replace rp2 := (setRow_other w6 (w.heap.size) (w.heap.size + 1 + 1) (r4 x1 x3 x5 tr) (by first | assumption | omega)).trans rp2
 replace rp0 := setRow_heap w6 (w.heap.size) _ (r4 x1 x3 x5 tr) _ _ rp0
 replace hw := below_setRow hw (show w.heap.size ≤ w.heap.size by first | assumption | omega) (r4 x1 x3 x5 tr)
 generalize w6.setRow (w.heap.size) (r4 x1 x3 x5 tr) = wz2 at *
 go_wp2_with (first | (refine wpList_load_want rfl 101 _ rfl (w.heap.size) rfl 101 (r4 x1 x3 x5 tr) (0, 0) _ rp0 Tryd.underlying101 rfl (sp_info h1.size h3.size h5.size ht.size) ?_) | (refine wpList_load_want rfl 101 _ rfl (w.heap.size + 1) rfl 101 (r4 ur vr wr sr) (0, 0) _ rp1 Tryd.underlying101 rfl (sp_info hu.size hv.size hww.size hs.size) ?_) | (refine wpList_load_want rfl 101 _ rfl (w.heap.size + 1 + 1) rfl 101 q20 (0, 0) _ rp2 Tryd.underlying101 rfl (by kernel_rfl) ?_) | (refine wpList_load_part rfl 43 _ rfl (w.heap.size) 0 rfl 101 (r4 x1 x3 x5 tr) (0, 0) x1 _ rp0 p_0 Tryd.underlying43 rfl h1.info ?_) | (refine wpList_load_part rfl 43 _ rfl (w.heap.size) 5 rfl 101 (r4 x1 x3 x5 tr) (0, 0) x3 _ rp0 (p5_1 h1.size) Tryd.underlying43 rfl h3.info ?_) | (refine wpList_load_part rfl 43 _ rfl (w.heap.size) 10 rfl 101 (r4 x1 x3 x5 tr) (0, 0) x5 _ rp0 (p5_2 h1.size h3.size) Tryd.underlying43 rfl h5.info ?_) | (refine wpList_load_part rfl 43 _ rfl (w.heap.size) 15 rfl 101 (r4 x1 x3 x5 tr) (0, 0) tr _ rp0 (p5_3 h1.size h3.size h5.size) Tryd.underlying43 rfl ht.info ?_) | (refine wpList_load_part rfl 43 _ rfl (w.heap.size + 1) 0 rfl 101 (r4 ur vr wr sr) (0, 0) ur _ rp1 p_0 Tryd.underlying43 rfl hu.info ?_) | (refine wpList_load_part rfl 43 _ rfl (w.heap.size + 1) 5 rfl 101 (r4 ur vr wr sr) (0, 0) vr _ rp1 (p5_1 hu.size) Tryd.underlying43 rfl hv.info ?_) | (refine wpList_load_part rfl 43 _ rfl (w.heap.size + 1) 10 rfl 101 (r4 ur vr wr sr) (0, 0) wr _ rp1 (p5_2 hu.size hv.size) Tryd.underlying43 rfl hww.info ?_) | (refine wpList_load_part rfl 43 _ rfl (w.heap.size + 1) 15 rfl 101 (r4 ur vr wr sr) (0, 0) sr _ rp1 (p5_3 hu.size hv.size hww.size) Tryd.underlying43 rfl hs.info ?_) | fail)
 refine (c7.at _).mono ?_
 rintro e w8 ⟨rfl, hb⟩
 replace rp0 := keep hb rp0
 replace rp1 := keep hb rp1
 replace rp2 := keep hb rp2
 replace hw := Below.after hw hb
 clear hb
 go_wp2_with (first | (refine wpList_store_part rfl 43 _ _ rfl (w.heap.size) 15 x7 rfl rfl 101 (r4 x1 x3 x5 tr) (r4 x1 x3 x5 x7) rp0 (by rw [nums_size h1.size h3.size h5.size ht.size, h7.size]; decide) (ovw_3 h1.size h3.size h5.size ht.size h7.size) h7.info h7.one ?_; refine wpList_stay ?_) | fail)
 unfold WpStay
 replace rp1 := (setRow_other w8 (w.heap.size) (w.heap.size + 1) (r4 x1 x3 x5 x7) (by first | assumption | omega)).trans rp1
 replace rp2 := (setRow_other w8 (w.heap.size) (w.heap.size + 1 + 1) (r4 x1 x3 x5 x7) (by first | assumption | omega)).trans rp2
 replace rp0 := setRow_heap w8 (w.heap.size) _ (r4 x1 x3 x5 x7) _ _ rp0
 replace hw := below_setRow hw (show w.heap.size ≤ w.heap.size by first | assumption | omega) (r4 x1 x3 x5 x7)
 generalize w8.setRow (w.heap.size) (r4 x1 x3 x5 x7) = wz3 at *
 go_wp2_with (first | (refine wpList_store_row rfl 101 _ _ rfl (w.heap.size + 1 + 1) (r4 x1 x3 x5 x7) rfl rfl 101 _ rp2 (sp_info h1.size h3.size h5.size h7.size) ((show _ = 20 from rfl).trans (nums_size h1.size h3.size h5.size h7.size).symm) (r4_one h1.one h3.one h5.one h7.one) ?_) | (refine wpList_load_want rfl 101 _ rfl (w.heap.size) rfl 101 (r4 x1 x3 x5 x7) (0, 0) _ rp0 Tryd.underlying101 rfl (sp_info h1.size h3.size h5.size h7.size) ?_) | (refine wpList_load_want rfl 101 _ rfl (w.heap.size + 1) rfl 101 (r4 ur vr wr sr) (0, 0) _ rp1 Tryd.underlying101 rfl (sp_info hu.size hv.size hww.size hs.size) ?_) | (refine wpList_load_want rfl 101 _ rfl (w.heap.size + 1 + 1) rfl 101 q20 (0, 0) _ rp2 Tryd.underlying101 rfl (by kernel_rfl) ?_) | (refine wpList_load_part rfl 43 _ rfl (w.heap.size) 0 rfl 101 (r4 x1 x3 x5 x7) (0, 0) x1 _ rp0 p_0 Tryd.underlying43 rfl h1.info ?_) | (refine wpList_load_part rfl 43 _ rfl (w.heap.size) 5 rfl 101 (r4 x1 x3 x5 x7) (0, 0) x3 _ rp0 (p5_1 h1.size) Tryd.underlying43 rfl h3.info ?_) | (refine wpList_load_part rfl 43 _ rfl (w.heap.size) 10 rfl 101 (r4 x1 x3 x5 x7) (0, 0) x5 _ rp0 (p5_2 h1.size h3.size) Tryd.underlying43 rfl h5.info ?_) | (refine wpList_load_part rfl 43 _ rfl (w.heap.size) 15 rfl 101 (r4 x1 x3 x5 x7) (0, 0) x7 _ rp0 (p5_3 h1.size h3.size h5.size) Tryd.underlying43 rfl h7.info ?_) | (refine wpList_load_part rfl 43 _ rfl (w.heap.size + 1) 0 rfl 101 (r4 ur vr wr sr) (0, 0) ur _ rp1 p_0 Tryd.underlying43 rfl hu.info ?_) | (refine wpList_load_part rfl 43 _ rfl (w.heap.size + 1) 5 rfl 101 (r4 ur vr wr sr) (0, 0) vr _ rp1 (p5_1 hu.size) Tryd.underlying43 rfl hv.info ?_) | (refine wpList_load_part rfl 43 _ rfl (w.heap.size + 1) 10 rfl 101 (r4 ur vr wr sr) (0, 0) wr _ rp1 (p5_2 hu.size hv.size) Tryd.underlying43 rfl hww.info ?_) | (refine wpList_load_part rfl 43 _ rfl (w.heap.size + 1) 15 rfl 101 (r4 ur vr wr sr) (0, 0) sr _ rp1 (p5_3 hu.size hv.size hww.size) Tryd.underlying43 rfl hs.info ?_) | fail)
 exact bodyPost_ret (v := .agg (r4 x1 x3 x5 x7)) (results_cell_row Tryd.results112 _ _ (w.heap.size + 1 + 1) _ (r4 x1 x3 x5 x7) _ _ rfl (setRow_heap _ _ _ _ _ _ rp2) Tryd.underlying101 rfl (sp_info h1.size h3.size h5.size h7.size)) rfl ⟨rfl, below_setRow hw (by omega) _⟩
set_option maxRecDepth 100000 in
set_option maxHeartbeats 8000000 in
theorem a_eq {r s : Array Value} {P Q : E1} (h : SpO r P) (g : SpO s Q) : Gives 75 #[.agg r, .agg s] (.bool (eqb P Q)) := by
 obtain ⟨xr, yr, zr, tr, X, Y, Z, T, rfl, hx, hy, hz, ht, hP⟩ := h
 obtain ⟨ur, vr, wr, sr, X2, Y2, Z2, T2, rfl, hu, hv, hww, hs, hQ⟩ := g
 by_cases hq : X * Z2 % prm = X2 * Z % prm
 ·have he : eqb P Q = (decide (Y * Z2 % prm = Y2 * Z % prm)) := by
   apply Bool.eq_iff_iff.2
   rw [eqb_iff, ← sp_eq hP hQ]
   simp only [decide_eq_true_iff, hq, true_and]
  rw [he]
  clear he
  obtain ⟨x2, h2, c2⟩ := a_mul hx hww
  obtain ⟨x3, h3, c3⟩ := a_mul hu hz
  have c4 := a_equal_t h2 h3 hq
  obtain ⟨x5, h5, c5⟩ := a_mul hy hww
  obtain ⟨x6, h6, c6⟩ := a_mul hv hz
  have c7 := a_equal h5 h6
  intro w
  go_enter Tryd.func75, Tryd.ntmps75
  go_wp2
  have rp0 : ((w.alloc (.cells (r4 xr yr zr tr) 101)).alloc (.cells (r4 ur vr wr sr) 101)).heap[w.heap.size]? = some (.cells (r4 xr yr zr tr) 101 (0, 0)) := hp2_0 w _ _
  have rp1 : ((w.alloc (.cells (r4 xr yr zr tr) 101)).alloc (.cells (r4 ur vr wr sr) 101)).heap[w.heap.size + 1]? = some (.cells (r4 ur vr wr sr) 101 (0, 0)) := hp2_1 w _ _
  have hw : Below w.heap.size w ((w.alloc (.cells (r4 xr yr zr tr) 101)).alloc (.cells (r4 ur vr wr sr) 101)) := (((Below.refl _ _).alloc (Nat.le_refl _) _).alloc (by simp) _)
  generalize ((w.alloc (.cells (r4 xr yr zr tr) 101)).alloc (.cells (r4 ur vr wr sr) 101)) = w0 at *
  have Hrp0 := keepr rp0
  have Hrp1 := keepr rp1
  refine wp_region_quiet_below (by kernel_rfl) (by kernel_rfl) ?_
  go_big_quiet_step (fail)
  refine wpQuiet_load_part rfl 43 _ rfl (w.heap.size) 0 rfl 101 (r4 xr yr zr tr) (0, 0) xr _ Hrp0.out p_0 Tryd.underlying43 rfl hx.info ?_
  simp only [Act.put, ZPd, ZPe, ZPf]
  go_big_quiet_step (fail)
  refine wpQuiet_load_part rfl 43 _ rfl (w.heap.size + 1) 10 rfl 101 (r4 ur vr wr sr) (0, 0) wr _ Hrp1.out (p5_2 hu.size hv.size) Tryd.underlying43 rfl hww.info ?_
  simp only [Act.put, ZPd, ZPe, ZPf]
  go_big_quiet_step (exact c2.re)
  go_big_quiet_step (fail)
  refine wpQuiet_load_part rfl 43 _ rfl (w.heap.size + 1) 0 rfl 101 (r4 ur vr wr sr) (0, 0) ur _ Hrp1.out p_0 Tryd.underlying43 rfl hu.info ?_
  simp only [Act.put, ZPd, ZPe, ZPf]
  go_big_quiet_step (fail)
  refine wpQuiet_load_part rfl 43 _ rfl (w.heap.size) 10 rfl 101 (r4 xr yr zr tr) (0, 0) zr _ Hrp0.out (p5_2 hx.size hy.size) Tryd.underlying43 rfl hz.info ?_
  simp only [Act.put, ZPd, ZPe, ZPf]
  go_big_quiet_step (exact c3.re)
  go_big_quiet_step (exact c4.re)
  go_big_quiet_step (fail)
  go_big_quiet_step (fail)
  refine wpQuiet_load_part rfl 43 _ rfl (w.heap.size) 5 rfl 101 (r4 xr yr zr tr) (0, 0) yr _ Hrp0.out (p5_1 hx.size) Tryd.underlying43 rfl hy.info ?_
  simp only [Act.put, ZPd, ZPe, ZPf]
  go_big_quiet_step (fail)
  refine wpQuiet_load_part rfl 43 _ rfl (w.heap.size + 1) 10 rfl 101 (r4 ur vr wr sr) (0, 0) wr _ Hrp1.out (p5_2 hu.size hv.size) Tryd.underlying43 rfl hww.info ?_
  simp only [Act.put, ZPd, ZPe, ZPf]
  go_big_quiet_step (exact c5.re)
  go_big_quiet_step (fail)
  refine wpQuiet_load_part rfl 43 _ rfl (w.heap.size + 1) 5 rfl 101 (r4 ur vr wr sr) (0, 0) vr _ Hrp1.out (p5_1 hu.size) Tryd.underlying43 rfl hv.info ?_
  simp only [Act.put, ZPd, ZPe, ZPf]
  go_big_quiet_step (fail)
  refine wpQuiet_load_part rfl 43 _ rfl (w.heap.size) 10 rfl 101 (r4 xr yr zr tr) (0, 0) zr _ Hrp0.out (p5_2 hx.size hy.size) Tryd.underlying43 rfl hz.info ?_
  simp only [Act.put, ZPd, ZPe, ZPf]
  go_big_quiet_step (exact c6.re)
  go_big_quiet_step (exact c7.re)
  go_big_quiet_step (fail)
  go_big_quiet_step (fail)
  refine wpQuiet_nil ?_
  rintro _ ⟨p, rfl⟩
  have hb := below_regrown w0 p.d p.os
  generalize grow (redrawn w0 p.d) p.os = w1 at *
  replace rp0 := keep hb rp0
  replace rp1 := keep hb rp1
  replace hw := Below.after hw hb
  clear hb
  clear Hrp0 Hrp1
  go_wp2
  go_ret
  exact ⟨rfl, hw⟩
 ·have he : eqb P Q = false := by
   apply Bool.eq_iff_iff.2
   rw [eqb_iff, ← sp_eq hP hQ]
   simp [hq]
  rw [he]
  clear he
  obtain ⟨x2, h2, c2⟩ := a_mul hx hww
  obtain ⟨x3, h3, c3⟩ := a_mul hu hz
  have c4 := a_equal_f h2 h3 hq
  intro w
  go_enter Tryd.func75, Tryd.ntmps75
  go_wp2
  have rp0 : ((w.alloc (.cells (r4 xr yr zr tr) 101)).alloc (.cells (r4 ur vr wr sr) 101)).heap[w.heap.size]? = some (.cells (r4 xr yr zr tr) 101 (0, 0)) := hp2_0 w _ _
  have rp1 : ((w.alloc (.cells (r4 xr yr zr tr) 101)).alloc (.cells (r4 ur vr wr sr) 101)).heap[w.heap.size + 1]? = some (.cells (r4 ur vr wr sr) 101 (0, 0)) := hp2_1 w _ _
  have hw : Below w.heap.size w ((w.alloc (.cells (r4 xr yr zr tr) 101)).alloc (.cells (r4 ur vr wr sr) 101)) := (((Below.refl _ _).alloc (Nat.le_refl _) _).alloc (by simp) _)
  generalize ((w.alloc (.cells (r4 xr yr zr tr) 101)).alloc (.cells (r4 ur vr wr sr) 101)) = w0 at *
  have Hrp0 := keepr rp0
  have Hrp1 := keepr rp1
  refine wp_region_quiet_below (by kernel_rfl) (by kernel_rfl) ?_
  go_big_quiet_step (fail)
  refine wpQuiet_load_part rfl 43 _ rfl (w.heap.size) 0 rfl 101 (r4 xr yr zr tr) (0, 0) xr _ Hrp0.out p_0 Tryd.underlying43 rfl hx.info ?_
  simp only [Act.put, ZPd, ZPe, ZPf]
  go_big_quiet_step (fail)
  refine wpQuiet_load_part rfl 43 _ rfl (w.heap.size + 1) 10 rfl 101 (r4 ur vr wr sr) (0, 0) wr _ Hrp1.out (p5_2 hu.size hv.size) Tryd.underlying43 rfl hww.info ?_
  simp only [Act.put, ZPd, ZPe, ZPf]
  go_big_quiet_step (exact c2.re)
  go_big_quiet_step (fail)
  refine wpQuiet_load_part rfl 43 _ rfl (w.heap.size + 1) 0 rfl 101 (r4 ur vr wr sr) (0, 0) ur _ Hrp1.out p_0 Tryd.underlying43 rfl hu.info ?_
  simp only [Act.put, ZPd, ZPe, ZPf]
  go_big_quiet_step (fail)
  refine wpQuiet_load_part rfl 43 _ rfl (w.heap.size) 10 rfl 101 (r4 xr yr zr tr) (0, 0) zr _ Hrp0.out (p5_2 hx.size hy.size) Tryd.underlying43 rfl hz.info ?_
  simp only [Act.put, ZPd, ZPe, ZPf]
  go_big_quiet_step (exact c3.re)
  go_big_quiet_step (exact c4.re)
  go_big_quiet_step (fail)
  go_big_quiet_step (fail)
  go_big_quiet_step (fail)
  go_big_quiet_step (fail)
  go_big_quiet_step (fail)
  go_big_quiet_step (fail)
  go_big_quiet_step (fail)
  go_big_quiet_step (fail)
  go_big_quiet_step (fail)
  go_big_quiet_step (fail)
  go_big_quiet_step (fail)
  go_big_quiet_step (fail)
  go_big_quiet_step (fail)
  go_big_quiet_step (fail)
  refine wpQuiet_nil ?_
  rintro _ ⟨p, rfl⟩
  have hb := below_regrown w0 p.d p.os
  generalize grow (redrawn w0 p.d) p.os = w1 at *
  replace rp0 := keep hb rp0
  replace rp1 := keep hb rp1
  replace hw := Below.after hw hb
  clear hb
  clear Hrp0 Hrp1
  go_wp2
  go_ret
  exact ⟨rfl, hw⟩
set_option maxRecDepth 100000 in
set_option maxHeartbeats 8000000 in
theorem a_Equal {r s : Array Value} {P Q : E1} (h : PtO r P) (g : PtO s Q) : Gives 25 #[.agg r, .agg s] (.bool (eqb P Q)) := by
 obtain ⟨x2, h2, c2⟩ := a_spot h
 obtain ⟨x3, h3, c3⟩ := a_spot g
 have c4 := a_eq h2 h3
 intro w
 go_enter Tryd.func25, Tryd.ntmps25
 go_wp2
 have rp0 : ((w.alloc (.cells r 45)).alloc (.cells s 45)).heap[w.heap.size]? = some (.cells r 45 (0, 0)) := hp2_0 w _ _
 have rp1 : ((w.alloc (.cells r 45)).alloc (.cells s 45)).heap[w.heap.size + 1]? = some (.cells s 45 (0, 0)) := hp2_1 w _ _
 have hw : Below w.heap.size w ((w.alloc (.cells r 45)).alloc (.cells s 45)) := (((Below.refl _ _).alloc (Nat.le_refl _) _).alloc (by simp) _)
 generalize ((w.alloc (.cells r 45)).alloc (.cells s 45)) = w0 at *
 have Hrp0 := keepr rp0
 have Hrp1 := keepr rp1
 refine wp_region_quiet_below (by kernel_rfl) (by kernel_rfl) ?_
 refine wpQuiet_load_row rfl 45 _ rfl (w.heap.size) rfl 45 r (0, 0) _ Hrp0.out Tryd.underlying45 rfl h.info ?_
 simp only [Act.put, ZPd, ZPe, ZPf]
 go_big_quiet_step (exact c2.re)
 refine wpQuiet_load_row rfl 45 _ rfl (w.heap.size + 1) rfl 45 s (0, 0) _ Hrp1.out Tryd.underlying45 rfl g.info ?_
 simp only [Act.put, ZPd, ZPe, ZPf]
 go_big_quiet_step (exact c3.re)
 go_big_quiet_step (exact c4.re)
 go_big_quiet_step (fail)
 refine wpQuiet_nil ?_
 rintro _ ⟨p, rfl⟩
 have hb := below_regrown w0 p.d p.os
 generalize grow (redrawn w0 p.d) p.os = w1 at *
 replace rp0 := keep hb rp0
 replace rp1 := keep hb rp1
 replace hw := Below.after hw hb
 clear hb
 clear Hrp0 Hrp1
 go_wp2
 go_ret
 exact ⟨rfl, hw⟩
set_option maxRecDepth 100000 in
set_option maxHeartbeats 8000000 in
theorem a_IsNeutral {r : Array Value} {P : E1} (h : PtO r P) : Gives 56 #[.agg r] (.bool (eqb P ze)) := by
 have c1 := a_Equal h pt_zero
 intro w
 have rp0 : (w.alloc (.cells r 45)).heap[w.heap.size]? = some (.cells r 45 (0, 0)) := hp1_0 w _
 have hw : Below w.heap.size w (w.alloc (.cells r 45)) := ((Below.refl _ _).alloc (Nat.le_refl _) _)
 go_enter Tryd.func56, Tryd.ntmps56
 iterate 6 go_step
 generalize (w.alloc (.cells r 45)) = w0 at *
 go_wp2_with (first | (refine wpList_load_want rfl 45 _ rfl (w.heap.size) rfl 45 r (0, 0) _ rp0 Tryd.underlying45 rfl h.info ?_) | (refine wpList_build_as rfl 45 _ rfl [] rfl q20 (by kernel_rfl) ?_) | fail)
 refine (c1.at _).mono ?_
 rintro e w1 ⟨rfl, hb⟩
 replace rp0 := keep hb rp0
 replace hw := Below.after hw hb
 clear hb
 go_wp2
 go_ret
 exact ⟨rfl, hw⟩
set_option maxRecDepth 100000 in
set_option maxHeartbeats 8000000 in
theorem a_Add {r s : Array Value} {P Q : E1} (h : PtO r P) (g : PtO s Q) : ∃ t, PtO t (pl P Q) ∧ Gives4 26 #[.agg r, .agg s] (.agg t) := by
 obtain ⟨x1, h1, c1⟩ := a_spot h
 obtain ⟨x2, h2, c2⟩ := a_spot g
 obtain ⟨x3, h3, c3⟩ := a_ready h2
 obtain ⟨x4, h4, c4⟩ := a_plus h1 h3
 obtain ⟨x5, h5, c5⟩ := a_point h4
 refine ⟨_, h5, fun w hF => ?_⟩
 go_enter Tryd.func26, Tryd.ntmps26
 go_wp2
 have rp0 : (((w.alloc (.cells r 45)).alloc (.cells s 45)).alloc (.cells q20 45)).heap[w.heap.size]? = some (.cells r 45 (0, 0)) := hp3_0 w _ _ _
 have rp1 : (((w.alloc (.cells r 45)).alloc (.cells s 45)).alloc (.cells q20 45)).heap[w.heap.size + 1]? = some (.cells s 45 (0, 0)) := hp3_1 w _ _ _
 have rp2 : (((w.alloc (.cells r 45)).alloc (.cells s 45)).alloc (.cells q20 45)).heap[w.heap.size + 1 + 1]? = some (.cells q20 45 (0, 0)) := hp3_2 w _ _ _
 have hw : Below w.heap.size w (((w.alloc (.cells r 45)).alloc (.cells s 45)).alloc (.cells q20 45)) := ((((Below.refl _ _).alloc (Nat.le_refl _) _).alloc (by simp) _).alloc (by simp; omega) _)
 have hz0 := hF.1
 have f4 : Four (((w.alloc (.cells r 45)).alloc (.cells s 45)).alloc (.cells q20 45)) := (((hF.alloc _).alloc _).alloc _)
 generalize (((w.alloc (.cells r 45)).alloc (.cells s 45)).alloc (.cells q20 45)) = w0 at *
 have Hrp0 := keepr rp0
 have Hrp1 := keepr rp1
 have Hrp2 := keepr rp2
 refine wp_region_tail (C := fun w' => ∃ p : Regrown, w' = grow (redrawn w0 p.d) p.os) 7 _ rfl rfl rfl (by kernel_rfl) (by kernel_rfl) (by kernel_rfl) (by kernel_rfl) ⟨⟨w0.drawn + 1, #[]⟩, by rw [grow_empty]; rfl⟩ ?_
 dsimp only [List.set, idle]
 refine wpQuiet_load_row rfl 45 _ rfl (w.heap.size) rfl 45 r (0, 0) _ Hrp0.out Tryd.underlying45 rfl h.info ?_
 simp only [Act.put, ZPd, ZPe, ZPf]
 go_big_quiet_step (exact c1.re)
 refine wpQuiet_load_row rfl 45 _ rfl (w.heap.size + 1) rfl 45 s (0, 0) _ Hrp1.out Tryd.underlying45 rfl g.info ?_
 simp only [Act.put, ZPd, ZPe, ZPf]
 go_big_quiet_step (exact c2.re)
 go_big_quiet_step (exact c3.re f4)
 go_big_quiet_step (exact c4.re f4)
 go_big_quiet_step (exact c5.re f4)
 refine wpQuiet_idle rfl rfl rfl ?_
 rintro _ ⟨p, rfl⟩
 have hb := below_regrown w0 p.d p.os
 generalize grow (redrawn w0 p.d) p.os = w6 at *
 replace rp0 := keep hb rp0
 replace rp1 := keep hb rp1
 replace rp2 := keep hb rp2
 replace hw := Below.after hw hb
 replace f4 := f4.below hb
 clear hb
 clear Hrp0 Hrp1 Hrp2
 go_wp2_with (first | (refine wpList_store_row rfl 45 _ _ rfl (w.heap.size + 1 + 1) x5 rfl rfl 45 _ rp2 h5.info ((show _ = 20 from rfl).trans h5.size.symm) h5.one ?_) | fail)
 exact bodyPost_ret (v := .agg x5) (results_cell_row Tryd.results26 _ _ (w.heap.size + 1 + 1) _ x5 _ _ rfl (setRow_heap _ _ _ _ _ _ rp2) Tryd.underlying45 rfl h5.info) rfl ⟨rfl, below_setRow hw (by omega) _⟩
set_option maxRecDepth 100000 in
set_option maxHeartbeats 8000000 in
theorem a_Sub {r s : Array Value} {P Q : E1} (h : PtO r P) (g : PtO s Q) : ∃ t, PtO t (pl P (ng Q)) ∧ Gives4 33 #[.agg r, .agg s] (.agg t) := by
 obtain ⟨x1, h1, c1⟩ := a_Neg g
 obtain ⟨x2, h2, c2⟩ := a_Add h h1
 refine ⟨_, h2, fun w hF => ?_⟩
 go_enter Tryd.func33, Tryd.ntmps33
 go_wp2
 have rp0 : (((w.alloc (.cells r 45)).alloc (.cells s 45)).alloc (.cells q20 45)).heap[w.heap.size]? = some (.cells r 45 (0, 0)) := hp3_0 w _ _ _
 have rp1 : (((w.alloc (.cells r 45)).alloc (.cells s 45)).alloc (.cells q20 45)).heap[w.heap.size + 1]? = some (.cells s 45 (0, 0)) := hp3_1 w _ _ _
 have rp2 : (((w.alloc (.cells r 45)).alloc (.cells s 45)).alloc (.cells q20 45)).heap[w.heap.size + 1 + 1]? = some (.cells q20 45 (0, 0)) := hp3_2 w _ _ _
 have hw : Below w.heap.size w (((w.alloc (.cells r 45)).alloc (.cells s 45)).alloc (.cells q20 45)) := ((((Below.refl _ _).alloc (Nat.le_refl _) _).alloc (by simp) _).alloc (by simp; omega) _)
 have hz0 := hF.1
 have f4 : Four (((w.alloc (.cells r 45)).alloc (.cells s 45)).alloc (.cells q20 45)) := (((hF.alloc _).alloc _).alloc _)
 generalize (((w.alloc (.cells r 45)).alloc (.cells s 45)).alloc (.cells q20 45)) = w0 at *
 have Hrp0 := keepr rp0
 have Hrp1 := keepr rp1
 have Hrp2 := keepr rp2
 refine wp_region_tail (C := fun w' => ∃ p : Regrown, w' = grow (redrawn w0 p.d) p.os) 4 _ rfl rfl rfl (by kernel_rfl) (by kernel_rfl) (by kernel_rfl) (by kernel_rfl) ⟨⟨w0.drawn + 1, #[]⟩, by rw [grow_empty]; rfl⟩ ?_
 dsimp only [List.set, idle]
 refine wpQuiet_load_row rfl 45 _ rfl (w.heap.size) rfl 45 r (0, 0) _ Hrp0.out Tryd.underlying45 rfl h.info ?_
 simp only [Act.put, ZPd, ZPe, ZPf]
 refine wpQuiet_load_row rfl 45 _ rfl (w.heap.size + 1) rfl 45 s (0, 0) _ Hrp1.out Tryd.underlying45 rfl g.info ?_
 simp only [Act.put, ZPd, ZPe, ZPf]
 go_big_quiet_step (exact c1.re f4)
 go_big_quiet_step (exact c2.re f4)
 refine wpQuiet_idle rfl rfl rfl ?_
 rintro _ ⟨p, rfl⟩
 have hb := below_regrown w0 p.d p.os
 generalize grow (redrawn w0 p.d) p.os = w3 at *
 replace rp0 := keep hb rp0
 replace rp1 := keep hb rp1
 replace rp2 := keep hb rp2
 replace hw := Below.after hw hb
 replace f4 := f4.below hb
 clear hb
 clear Hrp0 Hrp1 Hrp2
 go_wp2_with (first | (refine wpList_store_row rfl 45 _ _ rfl (w.heap.size + 1 + 1) x2 rfl rfl 45 _ rp2 h2.info ((show _ = 20 from rfl).trans h2.size.symm) h2.one ?_) | fail)
 exact bodyPost_ret (v := .agg x2) (results_cell_row Tryd.results33 _ _ (w.heap.size + 1 + 1) _ x2 _ _ rfl (setRow_heap _ _ _ _ _ _ rp2) Tryd.underlying45 rfl h2.info) rfl ⟨rfl, below_setRow hw (by omega) _⟩
set_option maxRecDepth 100000 in
set_option maxHeartbeats 8000000 in
theorem a_Double {r : Array Value} {P : E1} (h : PtO r P) : ∃ t, PtO t (pl P P) ∧ Gives4 86 #[.agg r] (.agg t) := by
 obtain ⟨x1, h1, c1⟩ := a_spot h
 obtain ⟨x3, h3, c3⟩ := a_twice h1
 obtain ⟨x5, h5, c5⟩ := a_point h3
 refine ⟨_, h5, fun w hF => ?_⟩
 have rp0 : ((w.alloc (.cells r 45)).alloc (.cells q20 45)).heap[w.heap.size]? = some (.cells r 45 (0, 0)) := hp2_0 w _ _
 have rp1 : ((w.alloc (.cells r 45)).alloc (.cells q20 45)).heap[w.heap.size + 1]? = some (.cells q20 45 (0, 0)) := hp2_1 w _ _
 have hw : Below w.heap.size w ((w.alloc (.cells r 45)).alloc (.cells q20 45)) := (((Below.refl _ _).alloc (Nat.le_refl _) _).alloc (by simp) _)
 have hz0 := hF.1
 have f4 : Four ((w.alloc (.cells r 45)).alloc (.cells q20 45)) := ((hF.alloc _).alloc _)
 go_enter Tryd.func86, Tryd.ntmps86
 iterate 9 go_step
 generalize ((w.alloc (.cells r 45)).alloc (.cells q20 45)) = w0 at *
 go_wp2_with (first | (refine wpList_load_want rfl 45 _ rfl (w.heap.size) rfl 45 r (0, 0) _ rp0 Tryd.underlying45 rfl h.info ?_) | (refine wpList_load_want rfl 45 _ rfl (w.heap.size + 1) rfl 45 q20 (0, 0) _ rp1 Tryd.underlying45 rfl (by kernel_rfl) ?_) | fail)
 refine (c1.at _).mono ?_
 rintro e w2 ⟨rfl, hb⟩
 replace rp0 := keep hb rp0
 replace rp1 := keep hb rp1
 replace hw := Below.after hw hb
 replace f4 := f4.below hb
 clear hb
 go_wp2_with (first | (refine wpList_load_want rfl 45 _ rfl (w.heap.size) rfl 45 r (0, 0) _ rp0 Tryd.underlying45 rfl h.info ?_) | (refine wpList_load_want rfl 45 _ rfl (w.heap.size + 1) rfl 45 q20 (0, 0) _ rp1 Tryd.underlying45 rfl (by kernel_rfl) ?_) | fail)
 refine (c3.at f4).mono ?_
 rintro e w4 ⟨rfl, hb⟩
 replace rp0 := keep hb rp0
 replace rp1 := keep hb rp1
 replace hw := Below.after hw hb
 replace f4 := f4.below hb
 clear hb
 go_wp2_with (first | (refine wpList_load_want rfl 45 _ rfl (w.heap.size) rfl 45 r (0, 0) _ rp0 Tryd.underlying45 rfl h.info ?_) | (refine wpList_load_want rfl 45 _ rfl (w.heap.size + 1) rfl 45 q20 (0, 0) _ rp1 Tryd.underlying45 rfl (by kernel_rfl) ?_) | fail)
 refine (c5.at f4).mono ?_
 rintro e w6 ⟨rfl, hb⟩
 replace rp0 := keep hb rp0
 replace rp1 := keep hb rp1
 replace hw := Below.after hw hb
 replace f4 := f4.below hb
 clear hb
 go_wp2_with (first | (refine wpList_store_row rfl 45 _ _ rfl (w.heap.size + 1) x5 rfl rfl 45 _ rp1 h5.info ((show _ = 20 from rfl).trans h5.size.symm) h5.one ?_) | (refine wpList_load_want rfl 45 _ rfl (w.heap.size) rfl 45 r (0, 0) _ rp0 Tryd.underlying45 rfl h.info ?_) | (refine wpList_load_want rfl 45 _ rfl (w.heap.size + 1) rfl 45 q20 (0, 0) _ rp1 Tryd.underlying45 rfl (by kernel_rfl) ?_) | fail)
 exact bodyPost_ret (v := .agg x5) (results_cell_row Tryd.results86 _ _ (w.heap.size + 1) _ x5 _ _ rfl (setRow_heap _ _ _ _ _ _ rp1) Tryd.underlying45 rfl h5.info) rfl ⟨rfl, below_setRow hw (by omega) _⟩
theorem y_key (P : E1) : KeyOf (kb P.y) P.y := by have := kb_mod P.y; rw [P.hy] at this; exact this
theorem pb_key (P : E1) : KeyOf (kb (pb P)) (pb P) := kb_key _ (pb_bd P).1 (pb_bd P).2
set_option maxRecDepth 100000 in
set_option maxHeartbeats 8000000 in
theorem a_Bytes {r : Array Value} {P : E1} (h : PtO r P) : Gives 21 #[.agg r] (.agg (kb (pb P))) := by
 obtain ⟨_, ⟨xr, yr, zr, tr, X, Y, Z, T, rfl, hx, hy, hz, ht, hP⟩, c1⟩ := a_spot h
 obtain ⟨x3, h3, c3⟩ := a_inv hz
 obtain ⟨x5, h5, c5⟩ := a_mul hy h3
 have c7 := a_bytes h5
 rw [sp_y hP] at c7
 have hkey := y_key P
 obtain ⟨x9, h9, c9⟩ := a_mul hx h3
 have c11 := a_odd_ev h9
 rw [sp_x hP] at c11
 intro w
 have rp0 : ((w.alloc (.cells r 45)).alloc (.cells q32 25)).heap[w.heap.size]? = some (.cells r 45 (0, 0)) := hp2_0 w _ _
 have rp1 : ((w.alloc (.cells r 45)).alloc (.cells q32 25)).heap[w.heap.size + 1]? = some (.cells q32 25 (0, 0)) := hp2_1 w _ _
 have hw : Below w.heap.size w ((w.alloc (.cells r 45)).alloc (.cells q32 25)) := (((Below.refl _ _).alloc (Nat.le_refl _) _).alloc (by simp) _)
 go_enter Tryd.func21, Tryd.ntmps21
 iterate 9 go_step
 generalize ((w.alloc (.cells r 45)).alloc (.cells q32 25)) = w0 at *
 go_wp2_with (first | (refine wpList_load_want rfl 45 _ rfl (w.heap.size) rfl 45 r (0, 0) _ rp0 Tryd.underlying45 rfl h.info ?_) | (refine wpList_load_want rfl 25 _ rfl (w.heap.size + 1) rfl 25 q32 (0, 0) _ rp1 Tryd.underlying25 rfl key_info ?_) | fail)
 refine (c1.at _).mono ?_
 rintro e w2 ⟨rfl, hb⟩
 replace rp0 := keep hb rp0
 replace rp1 := keep hb rp1
 replace hw := Below.after hw hb
 clear hb
 go_wp2_with (first | (refine wpList_store_row rfl 101 _ _ rfl (w2.heap.size) (r4 xr yr zr tr) rfl rfl 101 q20 (hp1_0 w2 _) (sp_info hx.size hy.size hz.size ht.size) (nums_size hx.size hy.size hz.size ht.size).symm (r4_one hx.one hy.one hz.one ht.one) ?_; rw [setRow_alloc_new _ _ _ _ _ _ (by simp)]; refine wpList_stay ?_) | fail)
 unfold WpStay
 try simp only [Act.put]
 have rl3 : (w2.alloc (.cells (r4 xr yr zr tr) 101)).heap[w2.heap.size]? = some (.cells (r4 xr yr zr tr) 101 (0, 0)) := hp1_0 w2 _
 have hb : Below w2.heap.size w2 (w2.alloc (.cells (r4 xr yr zr tr) 101)) := ((Below.refl _ _).alloc (Nat.le_refl _) _)
 generalize (w2.alloc (.cells (r4 xr yr zr tr) 101)) = wo at *
 have ygo_0 := lt_of_row rp0
 have ygo_1 := lt_of_row rp1
 have ygo := hw.size
 replace rp0 := keep hb rp0
 replace rp1 := keep hb rp1
 replace hw := Below.after hw hb
 clear hb
 generalize w2.heap.size = go at *
 clear w2
 go_wp2_with (first | (refine wpList_load_want rfl 45 _ rfl (w.heap.size) rfl 45 r (0, 0) _ rp0 Tryd.underlying45 rfl h.info ?_) | (refine wpList_load_want rfl 25 _ rfl (w.heap.size + 1) rfl 25 q32 (0, 0) _ rp1 Tryd.underlying25 rfl key_info ?_) | (refine wpList_load_want rfl 101 _ rfl (go) rfl 101 (r4 xr yr zr tr) (0, 0) _ rl3 Tryd.underlying101 rfl (sp_info hx.size hy.size hz.size ht.size) ?_) | (refine wpList_load_part rfl 43 _ rfl (go) 0 rfl 101 (r4 xr yr zr tr) (0, 0) xr _ rl3 p_0 Tryd.underlying43 rfl hx.info ?_) | (refine wpList_load_part rfl 43 _ rfl (go) 5 rfl 101 (r4 xr yr zr tr) (0, 0) yr _ rl3 (p5_1 hx.size) Tryd.underlying43 rfl hy.info ?_) | (refine wpList_load_part rfl 43 _ rfl (go) 10 rfl 101 (r4 xr yr zr tr) (0, 0) zr _ rl3 (p5_2 hx.size hy.size) Tryd.underlying43 rfl hz.info ?_) | (refine wpList_load_part rfl 43 _ rfl (go) 15 rfl 101 (r4 xr yr zr tr) (0, 0) tr _ rl3 (p5_3 hx.size hy.size hz.size) Tryd.underlying43 rfl ht.info ?_) | fail)
 refine (c3.at _).mono ?_
 rintro e w4 ⟨rfl, hb⟩
 replace rp0 := keep hb rp0
 replace rp1 := keep hb rp1
 replace rl3 := keep hb rl3
 replace hw := Below.after hw hb
 clear hb
 go_wp2_with (first | (refine wpList_store_row rfl 43 _ _ rfl (w4.heap.size) x3 rfl rfl 43 #[.int .u64 0, .int .u64 0, .int .u64 0, .int .u64 0, .int .u64 0] (hp1_0 w4 _) h3.info (h3.fits rfl) h3.one ?_; rw [setRow_alloc_new _ _ _ _ _ _ (by simp)]; refine wpList_stay ?_) | fail)
 unfold WpStay
 try simp only [Act.put]
 have rl4 : (w4.alloc (.cells x3 43)).heap[w4.heap.size]? = some (.cells x3 43 (0, 0)) := hp1_0 w4 _
 have hb : Below w4.heap.size w4 (w4.alloc (.cells x3 43)) := ((Below.refl _ _).alloc (Nat.le_refl _) _)
 generalize (w4.alloc (.cells x3 43)) = wi at *
 have ygi_0 := lt_of_row rp0
 have ygi_1 := lt_of_row rp1
 have ygi_2 := lt_of_row rl3
 have ygi := hw.size
 replace rp0 := keep hb rp0
 replace rp1 := keep hb rp1
 replace rl3 := keep hb rl3
 replace hw := Below.after hw hb
 clear hb
 generalize w4.heap.size = gi at *
 clear w4
 go_wp2_with (first | (refine wpList_load_want rfl 45 _ rfl (w.heap.size) rfl 45 r (0, 0) _ rp0 Tryd.underlying45 rfl h.info ?_) | (refine wpList_load_want rfl 25 _ rfl (w.heap.size + 1) rfl 25 q32 (0, 0) _ rp1 Tryd.underlying25 rfl key_info ?_) | (refine wpList_load_want rfl 101 _ rfl (go) rfl 101 (r4 xr yr zr tr) (0, 0) _ rl3 Tryd.underlying101 rfl (sp_info hx.size hy.size hz.size ht.size) ?_) | (refine wpList_load_want rfl 43 _ rfl (gi) rfl 43 x3 (0, 0) _ rl4 Tryd.underlying43 rfl h3.info ?_) | (refine wpList_load_part rfl 43 _ rfl (go) 0 rfl 101 (r4 xr yr zr tr) (0, 0) xr _ rl3 p_0 Tryd.underlying43 rfl hx.info ?_) | (refine wpList_load_part rfl 43 _ rfl (go) 5 rfl 101 (r4 xr yr zr tr) (0, 0) yr _ rl3 (p5_1 hx.size) Tryd.underlying43 rfl hy.info ?_) | (refine wpList_load_part rfl 43 _ rfl (go) 10 rfl 101 (r4 xr yr zr tr) (0, 0) zr _ rl3 (p5_2 hx.size hy.size) Tryd.underlying43 rfl hz.info ?_) | (refine wpList_load_part rfl 43 _ rfl (go) 15 rfl 101 (r4 xr yr zr tr) (0, 0) tr _ rl3 (p5_3 hx.size hy.size hz.size) Tryd.underlying43 rfl ht.info ?_) | fail)
 refine (c5.at _).mono ?_
 rintro e w6 ⟨rfl, hb⟩
 replace rp0 := keep hb rp0
 replace rp1 := keep hb rp1
 replace rl3 := keep hb rl3
 replace rl4 := keep hb rl4
 replace hw := Below.after hw hb
 clear hb
 go_wp2_with (first | (refine wpList_load_want rfl 45 _ rfl (w.heap.size) rfl 45 r (0, 0) _ rp0 Tryd.underlying45 rfl h.info ?_) | (refine wpList_load_want rfl 25 _ rfl (w.heap.size + 1) rfl 25 q32 (0, 0) _ rp1 Tryd.underlying25 rfl key_info ?_) | (refine wpList_load_want rfl 101 _ rfl (go) rfl 101 (r4 xr yr zr tr) (0, 0) _ rl3 Tryd.underlying101 rfl (sp_info hx.size hy.size hz.size ht.size) ?_) | (refine wpList_load_want rfl 43 _ rfl (gi) rfl 43 x3 (0, 0) _ rl4 Tryd.underlying43 rfl h3.info ?_) | (refine wpList_load_part rfl 43 _ rfl (go) 0 rfl 101 (r4 xr yr zr tr) (0, 0) xr _ rl3 p_0 Tryd.underlying43 rfl hx.info ?_) | (refine wpList_load_part rfl 43 _ rfl (go) 5 rfl 101 (r4 xr yr zr tr) (0, 0) yr _ rl3 (p5_1 hx.size) Tryd.underlying43 rfl hy.info ?_) | (refine wpList_load_part rfl 43 _ rfl (go) 10 rfl 101 (r4 xr yr zr tr) (0, 0) zr _ rl3 (p5_2 hx.size hy.size) Tryd.underlying43 rfl hz.info ?_) | (refine wpList_load_part rfl 43 _ rfl (go) 15 rfl 101 (r4 xr yr zr tr) (0, 0) tr _ rl3 (p5_3 hx.size hy.size hz.size) Tryd.underlying43 rfl ht.info ?_) | fail)
 refine (c7.at _).mono ?_
 rintro e w8 ⟨rfl, hb⟩
 replace rp0 := keep hb rp0
 replace rp1 := keep hb rp1
 replace rl3 := keep hb rl3
 replace rl4 := keep hb rl4
 replace hw := Below.after hw hb
 clear hb
 go_wp2_with (first | (refine wpList_store_row rfl 25 _ _ rfl (w8.heap.size) (kb P.y) rfl rfl 25 q32 (hp1_0 w8 _) hkey.info (hkey.size).symm hkey.one ?_; rw [setRow_alloc_new _ _ _ _ _ _ (by simp)]; refine wpList_stay ?_) | fail)
 unfold WpStay
 try simp only [Act.put]
 have rl5 : (w8.alloc (.cells (kb P.y) 25)).heap[w8.heap.size]? = some (.cells (kb P.y) 25 (0, 0)) := hp1_0 w8 _
 have hb : Below w8.heap.size w8 (w8.alloc (.cells (kb P.y) 25)) := ((Below.refl _ _).alloc (Nat.le_refl _) _)
 generalize (w8.alloc (.cells (kb P.y) 25)) = wk at *
 have ygk_0 := lt_of_row rp0
 have ygk_1 := lt_of_row rp1
 have ygk_2 := lt_of_row rl3
 have ygk_3 := lt_of_row rl4
 have ygk := hw.size
 replace rp0 := keep hb rp0
 replace rp1 := keep hb rp1
 replace rl3 := keep hb rl3
 replace rl4 := keep hb rl4
 replace hw := Below.after hw hb
 clear hb
 generalize w8.heap.size = gk at *
 clear w8
 go_wp2_with (first | (refine wpList_load_want rfl 45 _ rfl (w.heap.size) rfl 45 r (0, 0) _ rp0 Tryd.underlying45 rfl h.info ?_) | (refine wpList_load_want rfl 25 _ rfl (w.heap.size + 1) rfl 25 q32 (0, 0) _ rp1 Tryd.underlying25 rfl key_info ?_) | (refine wpList_load_want rfl 101 _ rfl (go) rfl 101 (r4 xr yr zr tr) (0, 0) _ rl3 Tryd.underlying101 rfl (sp_info hx.size hy.size hz.size ht.size) ?_) | (refine wpList_load_want rfl 43 _ rfl (gi) rfl 43 x3 (0, 0) _ rl4 Tryd.underlying43 rfl h3.info ?_) | (refine wpList_load_want rfl 25 _ rfl (gk) rfl 25 (kb P.y) (0, 0) _ rl5 Tryd.underlying25 rfl hkey.info ?_) | (refine wpList_load_part rfl 43 _ rfl (go) 0 rfl 101 (r4 xr yr zr tr) (0, 0) xr _ rl3 p_0 Tryd.underlying43 rfl hx.info ?_) | (refine wpList_load_part rfl 43 _ rfl (go) 5 rfl 101 (r4 xr yr zr tr) (0, 0) yr _ rl3 (p5_1 hx.size) Tryd.underlying43 rfl hy.info ?_) | (refine wpList_load_part rfl 43 _ rfl (go) 10 rfl 101 (r4 xr yr zr tr) (0, 0) zr _ rl3 (p5_2 hx.size hy.size) Tryd.underlying43 rfl hz.info ?_) | (refine wpList_load_part rfl 43 _ rfl (go) 15 rfl 101 (r4 xr yr zr tr) (0, 0) tr _ rl3 (p5_3 hx.size hy.size hz.size) Tryd.underlying43 rfl ht.info ?_) | fail)
 refine (c9.at _).mono ?_
 rintro e w10 ⟨rfl, hb⟩
 replace rp0 := keep hb rp0
 replace rp1 := keep hb rp1
 replace rl3 := keep hb rl3
 replace rl4 := keep hb rl4
 replace rl5 := keep hb rl5
 replace hw := Below.after hw hb
 clear hb
 go_wp2_with (first | (refine wpList_load_want rfl 45 _ rfl (w.heap.size) rfl 45 r (0, 0) _ rp0 Tryd.underlying45 rfl h.info ?_) | (refine wpList_load_want rfl 25 _ rfl (w.heap.size + 1) rfl 25 q32 (0, 0) _ rp1 Tryd.underlying25 rfl key_info ?_) | (refine wpList_load_want rfl 101 _ rfl (go) rfl 101 (r4 xr yr zr tr) (0, 0) _ rl3 Tryd.underlying101 rfl (sp_info hx.size hy.size hz.size ht.size) ?_) | (refine wpList_load_want rfl 43 _ rfl (gi) rfl 43 x3 (0, 0) _ rl4 Tryd.underlying43 rfl h3.info ?_) | (refine wpList_load_want rfl 25 _ rfl (gk) rfl 25 (kb P.y) (0, 0) _ rl5 Tryd.underlying25 rfl hkey.info ?_) | (refine wpList_load_part rfl 43 _ rfl (go) 0 rfl 101 (r4 xr yr zr tr) (0, 0) xr _ rl3 p_0 Tryd.underlying43 rfl hx.info ?_) | (refine wpList_load_part rfl 43 _ rfl (go) 5 rfl 101 (r4 xr yr zr tr) (0, 0) yr _ rl3 (p5_1 hx.size) Tryd.underlying43 rfl hy.info ?_) | (refine wpList_load_part rfl 43 _ rfl (go) 10 rfl 101 (r4 xr yr zr tr) (0, 0) zr _ rl3 (p5_2 hx.size hy.size) Tryd.underlying43 rfl hz.info ?_) | (refine wpList_load_part rfl 43 _ rfl (go) 15 rfl 101 (r4 xr yr zr tr) (0, 0) tr _ rl3 (p5_3 hx.size hy.size hz.size) Tryd.underlying43 rfl ht.info ?_) | fail)
 refine (c11.at _).mono ?_
 rintro e w12 ⟨rfl, hb⟩
 replace rp0 := keep hb rp0
 replace rp1 := keep hb rp1
 replace rl3 := keep hb rl3
 replace rl4 := keep hb rl4
 replace rl5 := keep hb rl5
 replace hw := Below.after hw hb
 clear hb
 have hyb := y_bd P
 have hp2 : tx P % 2 = 0 ∨ tx P % 2 = 1 := by omega
 have ht := kb_top P.y hyb.1 (by rw [prm_is] at hyb; omega)
 by_cases ho : tx P % 2 = 1
 ·have hd : decide (tx P % 2 = 1) = true := decide_eq_true ho
  rw [hd]
  have e1 : bits .or .u8 (byt P.y 31) 128 = P.y / 452312848583266388373324160190187140051835877600158453279131187530910662656 + 128 := by rw [ht.1]; exact or128 _ (by rw [prm_is] at hyb; omega)
  have e2 : (kb P.y).setIfInBounds 31 (.int .u8 (P.y / 452312848583266388373324160190187140051835877600158453279131187530910662656 + 128)) = kb (pb P) := by
   rw [ht.2 _ (by rw [prm_is] at hyb; omega)]
   congr 1
   unfold pb
   rw [ho]
   omega
  have c31 : w12.cell? ⟨gk, 31, none⟩ = some (.int .u8 (byt P.y 31)) := cell_of_row w12 gk 31 _ _ _ rl5
  have r1 := setRow_heap w12 gk _ (kb (pb P)) _ _ rl5
  have lt_ := lt_of_row rp1
  have r2 := (setRow_other w12 gk (w.heap.size + 1) (kb (pb P)) (by omega)).trans rp1
  have hw2 := below_setRow hw (show w.heap.size ≤ gk by omega) (kb (pb P))
  clear hyb hp2 ht ho hd
  go_wp2_with (first | (refine wpList_load_cell31 rfl 5 _ rfl gk 31 rfl _ c31 Tryd.underlying5 ?_) | (refine wpList_store_cell31 rfl 5 _ _ rfl gk 31 rfl (.int .u8 (P.y / 452312848583266388373324160190187140051835877600158453279131187530910662656 + 128)) (by rw [← e1]; rfl) 25 (kb P.y) rl5 (by rw [kb_size]; decide) (by kernel_rfl) rfl ?_; rw [e2]; refine wpList_stay ?_) | fail)
  unfold WpStay
  generalize w12.setRow gk (kb (pb P)) = wq at *
  go_wp2_with (first | (refine wpList_load_want rfl 25 _ rfl gk rfl 25 (kb (pb P)) (0, 0) _ r1 Tryd.underlying25 rfl (kb_info _) ?_) | (refine wpList_store_row rfl 25 _ _ rfl (w.heap.size + 1) (kb (pb P)) rfl rfl 25 _ r2 (kb_info _) rfl (kb_one _) ?_) | fail)
  exact bodyPost_ret (v := .agg (kb (pb P))) (results_cell_row Tryd.results21 _ _ (w.heap.size + 1) _ (kb (pb P)) _ _ rfl (setRow_heap _ _ _ _ _ _ r2) Tryd.underlying25 rfl (kb_info _)) rfl ⟨rfl, below_setRow hw2 (by omega) _⟩
 ·have hd : decide (tx P % 2 = 1) = false := decide_eq_false ho
  rw [hd]
  have e2 : P.y = pb P := by
   unfold pb
   rw [(by omega : tx P % 2 = 0)]
   omega
  have E2 := hide e2
  clear hyb hp2 ht ho hd e2
  go_wp2_with (first | (refine wpList_load_want rfl 25 _ rfl gk rfl 25 (kb P.y) (0, 0) _ rl5 Tryd.underlying25 rfl (kb_info _) ?_) | (refine wpList_store_row rfl 25 _ _ rfl (w.heap.size + 1) (kb P.y) rfl rfl 25 _ rp1 (kb_info _) rfl (kb_one _) ?_) | fail)
  exact bodyPost_ret (v := .agg (kb P.y)) (results_cell_row Tryd.results21 _ _ (w.heap.size + 1) _ (kb P.y) _ _ rfl (setRow_heap _ _ _ _ _ _ rp1) Tryd.underlying25 rfl (kb_info _)) rfl ⟨by rw [← E2.out], below_setRow hw (by omega) _⟩
end Go.Proofs.YtajaiiidafkijaaDoor

