import Derived.Test.YtpconccafpcpnaaDoorProg
import Derived.WalkKit
import Derived.WalkSpells
import Derived.WalkLawsBesides
import Derived.Lib.QuietBelow
import Derived.BigQuiet
import Derived.Test.YtpconccafpcpnaaDoorKa
import Derived.Test.YtpconccafpcpnaaDoorAb
import Derived.Test.YtpconccafpcpnaaDoorAe
import Derived.Test.YtpconccafpcpnaaDoorCm
namespace Go.Proofs.YtpconccafpcpnaaDoor
set_option maxRecDepth 100000
open Go.RowKit Go.Sort
attribute [local go_sem] setCell_drewN alloc_drewN


theorem all32 {k0 k1 k2 k3 k4 k5 k6 k7 k8 k9 k10 k11 k12 k13 k14 k15 k16 k17 k18 k19 k20 k21 k22 k23 k24 k25 k26 k27 k28 k29 k30 k31 : Int} (h0 : 0 ≤ k0 ∧ k0 < 256) (h1 : 0 ≤ k1 ∧ k1 < 256) (h2 : 0 ≤ k2 ∧ k2 < 256) (h3 : 0 ≤ k3 ∧ k3 < 256) (h4 : 0 ≤ k4 ∧ k4 < 256) (h5 : 0 ≤ k5 ∧ k5 < 256) (h6 : 0 ≤ k6 ∧ k6 < 256) (h7 : 0 ≤ k7 ∧ k7 < 256) (h8 : 0 ≤ k8 ∧ k8 < 256) (h9 : 0 ≤ k9 ∧ k9 < 256) (h10 : 0 ≤ k10 ∧ k10 < 256) (h11 : 0 ≤ k11 ∧ k11 < 256) (h12 : 0 ≤ k12 ∧ k12 < 256) (h13 : 0 ≤ k13 ∧ k13 < 256) (h14 : 0 ≤ k14 ∧ k14 < 256) (h15 : 0 ≤ k15 ∧ k15 < 256) (h16 : 0 ≤ k16 ∧ k16 < 256) (h17 : 0 ≤ k17 ∧ k17 < 256) (h18 : 0 ≤ k18 ∧ k18 < 256) (h19 : 0 ≤ k19 ∧ k19 < 256) (h20 : 0 ≤ k20 ∧ k20 < 256) (h21 : 0 ≤ k21 ∧ k21 < 256) (h22 : 0 ≤ k22 ∧ k22 < 256) (h23 : 0 ≤ k23 ∧ k23 < 256) (h24 : 0 ≤ k24 ∧ k24 < 256) (h25 : 0 ≤ k25 ∧ k25 < 256) (h26 : 0 ≤ k26 ∧ k26 < 256) (h27 : 0 ≤ k27 ∧ k27 < 256) (h28 : 0 ≤ k28 ∧ k28 < 256) (h29 : 0 ≤ k29 ∧ k29 < 256) (h30 : 0 ≤ k30 ∧ k30 < 256) (h31 : 0 ≤ k31 ∧ k31 < 256) : ∀ d ∈ [k0, k1, k2, k3, k4, k5, k6, k7, k8, k9, k10, k11, k12, k13, k14, k15, k16, k17, k18, k19, k20, k21, k22, k23, k24, k25, k26, k27, k28, k29, k30, k31], 0 ≤ d ∧ d < 256 := by
  simp only [List.forall_mem_cons]
  exact ⟨h0, h1, h2, h3, h4, h5, h6, h7, h8, h9, h10, h11, h12, h13, h14, h15, h16, h17, h18, h19, h20, h21, h22, h23, h24, h25, h26, h27, h28, h29, h30, h31, fun _ h => by cases h⟩
/-- A key's bytes are its number's. -/
theorem key_kb {r : Array Value} {N : Int} (h : KeyOf r N) : r = kb N := by
  obtain ⟨k0, k1, k2, k3, k4, k5, k6, k7, k8, k9, k10, k11, k12, k13, k14, k15, k16, k17, k18, k19, k20, k21, k22, k23, k24, k25, k26, k27, k28, k29, k30, k31, rfl, ⟨h0, h1, h2, h3, h4, h5, h6, h7, h8, h9, h10, h11, h12, h13, h14, h15, h16, h17, h18, h19, h20, h21, h22, h23, h24, h25, h26, h27, h28, h29, h30, h31⟩, rfl⟩ := h
  have hb := all32 h0 h1 h2 h3 h4 h5 h6 h7 h8 h9 h10 h11 h12 h13 h14 h15 h16 h17 h18 h19 h20 h21 h22 h23 h24 h25 h26 h27 h28 h29 h30 h31

  have e0 : byt (kv k0 k1 k2 k3 k4 k5 k6 k7 k8 k9 k10 k11 k12 k13 k14 k15 k16 k17 k18 k19 k20 k21 k22 k23 k24 k25 k26 k27 k28 k29 k30 k31) 0 = k0 := byt_valB _ hb 0 (by simp)
  have e1 : byt (kv k0 k1 k2 k3 k4 k5 k6 k7 k8 k9 k10 k11 k12 k13 k14 k15 k16 k17 k18 k19 k20 k21 k22 k23 k24 k25 k26 k27 k28 k29 k30 k31) 1 = k1 := byt_valB _ hb 1 (by simp)
  have e2 : byt (kv k0 k1 k2 k3 k4 k5 k6 k7 k8 k9 k10 k11 k12 k13 k14 k15 k16 k17 k18 k19 k20 k21 k22 k23 k24 k25 k26 k27 k28 k29 k30 k31) 2 = k2 := byt_valB _ hb 2 (by simp)
  have e3 : byt (kv k0 k1 k2 k3 k4 k5 k6 k7 k8 k9 k10 k11 k12 k13 k14 k15 k16 k17 k18 k19 k20 k21 k22 k23 k24 k25 k26 k27 k28 k29 k30 k31) 3 = k3 := byt_valB _ hb 3 (by simp)
  have e4 : byt (kv k0 k1 k2 k3 k4 k5 k6 k7 k8 k9 k10 k11 k12 k13 k14 k15 k16 k17 k18 k19 k20 k21 k22 k23 k24 k25 k26 k27 k28 k29 k30 k31) 4 = k4 := byt_valB _ hb 4 (by simp)
  have e5 : byt (kv k0 k1 k2 k3 k4 k5 k6 k7 k8 k9 k10 k11 k12 k13 k14 k15 k16 k17 k18 k19 k20 k21 k22 k23 k24 k25 k26 k27 k28 k29 k30 k31) 5 = k5 := byt_valB _ hb 5 (by simp)
  have e6 : byt (kv k0 k1 k2 k3 k4 k5 k6 k7 k8 k9 k10 k11 k12 k13 k14 k15 k16 k17 k18 k19 k20 k21 k22 k23 k24 k25 k26 k27 k28 k29 k30 k31) 6 = k6 := byt_valB _ hb 6 (by simp)
  have e7 : byt (kv k0 k1 k2 k3 k4 k5 k6 k7 k8 k9 k10 k11 k12 k13 k14 k15 k16 k17 k18 k19 k20 k21 k22 k23 k24 k25 k26 k27 k28 k29 k30 k31) 7 = k7 := byt_valB _ hb 7 (by simp)
  have e8 : byt (kv k0 k1 k2 k3 k4 k5 k6 k7 k8 k9 k10 k11 k12 k13 k14 k15 k16 k17 k18 k19 k20 k21 k22 k23 k24 k25 k26 k27 k28 k29 k30 k31) 8 = k8 := byt_valB _ hb 8 (by simp)
  have e9 : byt (kv k0 k1 k2 k3 k4 k5 k6 k7 k8 k9 k10 k11 k12 k13 k14 k15 k16 k17 k18 k19 k20 k21 k22 k23 k24 k25 k26 k27 k28 k29 k30 k31) 9 = k9 := byt_valB _ hb 9 (by simp)
  have e10 : byt (kv k0 k1 k2 k3 k4 k5 k6 k7 k8 k9 k10 k11 k12 k13 k14 k15 k16 k17 k18 k19 k20 k21 k22 k23 k24 k25 k26 k27 k28 k29 k30 k31) 10 = k10 := byt_valB _ hb 10 (by simp)
  have e11 : byt (kv k0 k1 k2 k3 k4 k5 k6 k7 k8 k9 k10 k11 k12 k13 k14 k15 k16 k17 k18 k19 k20 k21 k22 k23 k24 k25 k26 k27 k28 k29 k30 k31) 11 = k11 := byt_valB _ hb 11 (by simp)
  have e12 : byt (kv k0 k1 k2 k3 k4 k5 k6 k7 k8 k9 k10 k11 k12 k13 k14 k15 k16 k17 k18 k19 k20 k21 k22 k23 k24 k25 k26 k27 k28 k29 k30 k31) 12 = k12 := byt_valB _ hb 12 (by simp)
  have e13 : byt (kv k0 k1 k2 k3 k4 k5 k6 k7 k8 k9 k10 k11 k12 k13 k14 k15 k16 k17 k18 k19 k20 k21 k22 k23 k24 k25 k26 k27 k28 k29 k30 k31) 13 = k13 := byt_valB _ hb 13 (by simp)
  have e14 : byt (kv k0 k1 k2 k3 k4 k5 k6 k7 k8 k9 k10 k11 k12 k13 k14 k15 k16 k17 k18 k19 k20 k21 k22 k23 k24 k25 k26 k27 k28 k29 k30 k31) 14 = k14 := byt_valB _ hb 14 (by simp)
  have e15 : byt (kv k0 k1 k2 k3 k4 k5 k6 k7 k8 k9 k10 k11 k12 k13 k14 k15 k16 k17 k18 k19 k20 k21 k22 k23 k24 k25 k26 k27 k28 k29 k30 k31) 15 = k15 := byt_valB _ hb 15 (by simp)
  have e16 : byt (kv k0 k1 k2 k3 k4 k5 k6 k7 k8 k9 k10 k11 k12 k13 k14 k15 k16 k17 k18 k19 k20 k21 k22 k23 k24 k25 k26 k27 k28 k29 k30 k31) 16 = k16 := byt_valB _ hb 16 (by simp)
  have e17 : byt (kv k0 k1 k2 k3 k4 k5 k6 k7 k8 k9 k10 k11 k12 k13 k14 k15 k16 k17 k18 k19 k20 k21 k22 k23 k24 k25 k26 k27 k28 k29 k30 k31) 17 = k17 := byt_valB _ hb 17 (by simp)
  have e18 : byt (kv k0 k1 k2 k3 k4 k5 k6 k7 k8 k9 k10 k11 k12 k13 k14 k15 k16 k17 k18 k19 k20 k21 k22 k23 k24 k25 k26 k27 k28 k29 k30 k31) 18 = k18 := byt_valB _ hb 18 (by simp)
  have e19 : byt (kv k0 k1 k2 k3 k4 k5 k6 k7 k8 k9 k10 k11 k12 k13 k14 k15 k16 k17 k18 k19 k20 k21 k22 k23 k24 k25 k26 k27 k28 k29 k30 k31) 19 = k19 := byt_valB _ hb 19 (by simp)
  have e20 : byt (kv k0 k1 k2 k3 k4 k5 k6 k7 k8 k9 k10 k11 k12 k13 k14 k15 k16 k17 k18 k19 k20 k21 k22 k23 k24 k25 k26 k27 k28 k29 k30 k31) 20 = k20 := byt_valB _ hb 20 (by simp)
  have e21 : byt (kv k0 k1 k2 k3 k4 k5 k6 k7 k8 k9 k10 k11 k12 k13 k14 k15 k16 k17 k18 k19 k20 k21 k22 k23 k24 k25 k26 k27 k28 k29 k30 k31) 21 = k21 := byt_valB _ hb 21 (by simp)
  have e22 : byt (kv k0 k1 k2 k3 k4 k5 k6 k7 k8 k9 k10 k11 k12 k13 k14 k15 k16 k17 k18 k19 k20 k21 k22 k23 k24 k25 k26 k27 k28 k29 k30 k31) 22 = k22 := byt_valB _ hb 22 (by simp)
  have e23 : byt (kv k0 k1 k2 k3 k4 k5 k6 k7 k8 k9 k10 k11 k12 k13 k14 k15 k16 k17 k18 k19 k20 k21 k22 k23 k24 k25 k26 k27 k28 k29 k30 k31) 23 = k23 := byt_valB _ hb 23 (by simp)
  have e24 : byt (kv k0 k1 k2 k3 k4 k5 k6 k7 k8 k9 k10 k11 k12 k13 k14 k15 k16 k17 k18 k19 k20 k21 k22 k23 k24 k25 k26 k27 k28 k29 k30 k31) 24 = k24 := byt_valB _ hb 24 (by simp)
  have e25 : byt (kv k0 k1 k2 k3 k4 k5 k6 k7 k8 k9 k10 k11 k12 k13 k14 k15 k16 k17 k18 k19 k20 k21 k22 k23 k24 k25 k26 k27 k28 k29 k30 k31) 25 = k25 := byt_valB _ hb 25 (by simp)
  have e26 : byt (kv k0 k1 k2 k3 k4 k5 k6 k7 k8 k9 k10 k11 k12 k13 k14 k15 k16 k17 k18 k19 k20 k21 k22 k23 k24 k25 k26 k27 k28 k29 k30 k31) 26 = k26 := byt_valB _ hb 26 (by simp)
  have e27 : byt (kv k0 k1 k2 k3 k4 k5 k6 k7 k8 k9 k10 k11 k12 k13 k14 k15 k16 k17 k18 k19 k20 k21 k22 k23 k24 k25 k26 k27 k28 k29 k30 k31) 27 = k27 := byt_valB _ hb 27 (by simp)
  have e28 : byt (kv k0 k1 k2 k3 k4 k5 k6 k7 k8 k9 k10 k11 k12 k13 k14 k15 k16 k17 k18 k19 k20 k21 k22 k23 k24 k25 k26 k27 k28 k29 k30 k31) 28 = k28 := byt_valB _ hb 28 (by simp)
  have e29 : byt (kv k0 k1 k2 k3 k4 k5 k6 k7 k8 k9 k10 k11 k12 k13 k14 k15 k16 k17 k18 k19 k20 k21 k22 k23 k24 k25 k26 k27 k28 k29 k30 k31) 29 = k29 := byt_valB _ hb 29 (by simp)
  have e30 : byt (kv k0 k1 k2 k3 k4 k5 k6 k7 k8 k9 k10 k11 k12 k13 k14 k15 k16 k17 k18 k19 k20 k21 k22 k23 k24 k25 k26 k27 k28 k29 k30 k31) 30 = k30 := byt_valB _ hb 30 (by simp)
  have e31 : byt (kv k0 k1 k2 k3 k4 k5 k6 k7 k8 k9 k10 k11 k12 k13 k14 k15 k16 k17 k18 k19 k20 k21 k22 k23 k24 k25 k26 k27 k28 k29 k30 k31) 31 = k31 := byt_valB _ hb 31 (by simp)
  simp only [kb, e0, e1, e2, e3, e4, e5, e6, e7, e8, e9, e10, e11, e12, e13, e14, e15, e16, e17, e18, e19, e20, e21, e22, e23, e24, e25, e26, e27, e28, e29, e30, e31]
theorem kb_at (N : Int) : ∀ j : Nat, j < 32 → (kb N)[j]? = some (.int .u8 (byt N j))
  | 0, _ => rfl
  | 1, _ => rfl
  | 2, _ => rfl
  | 3, _ => rfl
  | 4, _ => rfl
  | 5, _ => rfl
  | 6, _ => rfl
  | 7, _ => rfl
  | 8, _ => rfl
  | 9, _ => rfl
  | 10, _ => rfl
  | 11, _ => rfl
  | 12, _ => rfl
  | 13, _ => rfl
  | 14, _ => rfl
  | 15, _ => rfl
  | 16, _ => rfl
  | 17, _ => rfl
  | 18, _ => rfl
  | 19, _ => rfl
  | 20, _ => rfl
  | 21, _ => rfl
  | 22, _ => rfl
  | 23, _ => rfl
  | 24, _ => rfl
  | 25, _ => rfl
  | 26, _ => rfl
  | 27, _ => rfl
  | 28, _ => rfl
  | 29, _ => rfl
  | 30, _ => rfl
  | 31, _ => rfl
  | _ + 32, h => absurd h (by omega)
theorem clp_kv (k0 k1 k2 k3 k4 k5 k6 k7 k8 k9 k10 k11 k12 k13 k14 k15 k16 k17 k18 k19 k20 k21 k22 k23 k24 k25 k26 k27 k28 k29 k30 k31 : Int) (h0 : 0 ≤ k0 ∧ k0 < 256) (h1 : 0 ≤ k1 ∧ k1 < 256) (h2 : 0 ≤ k2 ∧ k2 < 256) (h3 : 0 ≤ k3 ∧ k3 < 256) (h4 : 0 ≤ k4 ∧ k4 < 256) (h5 : 0 ≤ k5 ∧ k5 < 256) (h6 : 0 ≤ k6 ∧ k6 < 256) (h7 : 0 ≤ k7 ∧ k7 < 256) (h8 : 0 ≤ k8 ∧ k8 < 256) (h9 : 0 ≤ k9 ∧ k9 < 256) (h10 : 0 ≤ k10 ∧ k10 < 256) (h11 : 0 ≤ k11 ∧ k11 < 256) (h12 : 0 ≤ k12 ∧ k12 < 256) (h13 : 0 ≤ k13 ∧ k13 < 256) (h14 : 0 ≤ k14 ∧ k14 < 256) (h15 : 0 ≤ k15 ∧ k15 < 256) (h16 : 0 ≤ k16 ∧ k16 < 256) (h17 : 0 ≤ k17 ∧ k17 < 256) (h18 : 0 ≤ k18 ∧ k18 < 256) (h19 : 0 ≤ k19 ∧ k19 < 256) (h20 : 0 ≤ k20 ∧ k20 < 256) (h21 : 0 ≤ k21 ∧ k21 < 256) (h22 : 0 ≤ k22 ∧ k22 < 256) (h23 : 0 ≤ k23 ∧ k23 < 256) (h24 : 0 ≤ k24 ∧ k24 < 256) (h25 : 0 ≤ k25 ∧ k25 < 256) (h26 : 0 ≤ k26 ∧ k26 < 256) (h27 : 0 ≤ k27 ∧ k27 < 256) (h28 : 0 ≤ k28 ∧ k28 < 256) (h29 : 0 ≤ k29 ∧ k29 < 256) (h30 : 0 ≤ k30 ∧ k30 < 256) : kv (k0 / 8 * 8) k1 k2 k3 k4 k5 k6 k7 k8 k9 k10 k11 k12 k13 k14 k15 k16 k17 k18 k19 k20 k21 k22 k23 k24 k25 k26 k27 k28 k29 k30 (k31 % 64 + 64) = clp (kv k0 k1 k2 k3 k4 k5 k6 k7 k8 k9 k10 k11 k12 k13 k14 k15 k16 k17 k18 k19 k20 k21 k22 k23 k24 k25 k26 k27 k28 k29 k30 k31) := by
  have e : ∃ L, 0 ≤ L ∧ L < 1766847064778384329583297500742918515827483896875618958121606201292619776 ∧ kv k0 k1 k2 k3 k4 k5 k6 k7 k8 k9 k10 k11 k12 k13 k14 k15 k16 k17 k18 k19 k20 k21 k22 k23 k24 k25 k26 k27 k28 k29 k30 k31 = k0 + 256 * L + 452312848583266388373324160190187140051835877600158453279131187530910662656 * k31 ∧ kv (k0 / 8 * 8) k1 k2 k3 k4 k5 k6 k7 k8 k9 k10 k11 k12 k13 k14 k15 k16 k17 k18 k19 k20 k21 k22 k23 k24 k25 k26 k27 k28 k29 k30 (k31 % 64 + 64) = k0 / 8 * 8 + 256 * L + 452312848583266388373324160190187140051835877600158453279131187530910662656 * (k31 % 64 + 64) := by
    refine ⟨valB [k1, k2, k3, k4, k5, k6, k7, k8, k9, k10, k11, k12, k13, k14, k15, k16, k17, k18, k19, k20, k21, k22, k23, k24, k25, k26, k27, k28, k29, k30], ?_, ?_, ?_, ?_⟩
    · simp only [valB]; omega
    · simp only [valB]; omega
    · simp only [kv, valB]; omega
    · simp only [kv, valB]; omega
  obtain ⟨L, l0, l1, e0, e1⟩ := e
  rw [e0, e1]
  unfold clp
  clear e0 e1
  omega
theorem and248 (x : Int) (h : 0 ≤ x ∧ x < 256) : bits .and .u8 x 248 = x / 8 * 8 := by
  obtain ⟨n, rfl⟩ := Int.eq_ofNat_of_zero_le h.1
  have : ∀ n : Nat, n < 256 → bits .and .u8 (n : Int) 248 = (n : Int) / 8 * 8 := by decide +kernel
  exact this n (by omega)
theorem clamp31 (x : Int) (h : 0 ≤ x ∧ x < 256) : bits .or .u8 (bits .and .u8 x 127) 64 = x % 64 + 64 := by
  obtain ⟨n, rfl⟩ := Int.eq_ofNat_of_zero_le h.1
  have : ∀ n : Nat, n < 256 → bits .or .u8 (bits .and .u8 (n : Int) 127) 64 = (n : Int) % 64 + 64 := by decide +kernel
  exact this n (by omega)

theorem clp_cells {r : Array Value} {N : Int} (h : KeyOf r N) : (r.setIfInBounds 0 (.int .u8 (byt N 0 / 8 * 8))).setIfInBounds 31 (.int .u8 (byt N 31 % 64 + 64)) = kb (clp N) := by
  obtain ⟨k0, k1, k2, k3, k4, k5, k6, k7, k8, k9, k10, k11, k12, k13, k14, k15, k16, k17, k18, k19, k20, k21, k22, k23, k24, k25, k26, k27, k28, k29, k30, k31, rfl, ⟨h0, h1, h2, h3, h4, h5, h6, h7, h8, h9, h10, h11, h12, h13, h14, h15, h16, h17, h18, h19, h20, h21, h22, h23, h24, h25, h26, h27, h28, h29, h30, h31⟩, rfl⟩ := h
  have hb := all32 h0 h1 h2 h3 h4 h5 h6 h7 h8 h9 h10 h11 h12 h13 h14 h15 h16 h17 h18 h19 h20 h21 h22 h23 h24 h25 h26 h27 h28 h29 h30 h31
  have e0 : byt (kv k0 k1 k2 k3 k4 k5 k6 k7 k8 k9 k10 k11 k12 k13 k14 k15 k16 k17 k18 k19 k20 k21 k22 k23 k24 k25 k26 k27 k28 k29 k30 k31) 0 = k0 := byt_valB _ hb 0 (by simp)
  have e31 : byt (kv k0 k1 k2 k3 k4 k5 k6 k7 k8 k9 k10 k11 k12 k13 k14 k15 k16 k17 k18 k19 k20 k21 k22 k23 k24 k25 k26 k27 k28 k29 k30 k31) 31 = k31 := byt_valB _ hb 31 (by simp)
  rw [e0, e31]
  have hk : KeyOf (#[.int .u8 (k0 / 8 * 8), .int .u8 k1, .int .u8 k2, .int .u8 k3, .int .u8 k4, .int .u8 k5, .int .u8 k6, .int .u8 k7, .int .u8 k8, .int .u8 k9, .int .u8 k10, .int .u8 k11, .int .u8 k12, .int .u8 k13, .int .u8 k14, .int .u8 k15, .int .u8 k16, .int .u8 k17, .int .u8 k18, .int .u8 k19, .int .u8 k20, .int .u8 k21, .int .u8 k22, .int .u8 k23, .int .u8 k24, .int .u8 k25, .int .u8 k26, .int .u8 k27, .int .u8 k28, .int .u8 k29, .int .u8 k30, .int .u8 (k31 % 64 + 64)]) (clp (kv k0 k1 k2 k3 k4 k5 k6 k7 k8 k9 k10 k11 k12 k13 k14 k15 k16 k17 k18 k19 k20 k21 k22 k23 k24 k25 k26 k27 k28 k29 k30 k31)) := ⟨_, _, _, _, _, _, _, _, _, _, _, _, _, _, _, _, _, _, _, _, _, _, _, _, _, _, _, _, _, _, _, _, rfl, ⟨by omega, h1, h2, h3, h4, h5, h6, h7, h8, h9, h10, h11, h12, h13, h14, h15, h16, h17, h18, h19, h20, h21, h22, h23, h24, h25, h26, h27, h28, h29, h30, by omega⟩, clp_kv k0 k1 k2 k3 k4 k5 k6 k7 k8 k9 k10 k11 k12 k13 k14 k15 k16 k17 k18 k19 k20 k21 k22 k23 k24 k25 k26 k27 k28 k29 k30 k31 h0 h1 h2 h3 h4 h5 h6 h7 h8 h9 h10 h11 h12 h13 h14 h15 h16 h17 h18 h19 h20 h21 h22 h23 h24 h25 h26 h27 h28 h29 h30⟩
  exact key_kb hk

end Go.Proofs.YtpconccafpcpnaaDoor

