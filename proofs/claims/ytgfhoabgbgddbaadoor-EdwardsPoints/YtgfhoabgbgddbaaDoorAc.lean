import Derived.Test.YtgfhoabgbgddbaaDoorProg
import Derived.WalkKit
import Derived.WalkSpells
import Derived.WalkLawsBesides
import Derived.Lib.QuietBelow
import Derived.BigQuiet
import Derived.Test.YtgfhoabgbgddbaaDoorKa
import Derived.Test.YtgfhoabgbgddbaaDoorAb
import Derived.Test.YtgfhoabgbgddbaaDoorGa
import Derived.Test.YtgfhoabgbgddbaaDoorGo
namespace Go.Proofs.YtgfhoabgbgddbaaDoor
set_option maxRecDepth 100000
open Go.RowKit Go.Sort
attribute [local go_sem] setCell_drewN alloc_drewN


/-- The same where the package's variable holds what it was laid with. -/
def Gives4 (f : FuncId) (args : Array Value) (v : Value) : Prop := ∀ W, Four W → Calls Tryd.prog f args W fun e w' => e = .returned v ∧ Below W.heap.size W w'
theorem Gives4.at {f : FuncId} {args : Array Value} {v : Value} (h : Gives4 f args v) {W : World} (hW : Four W) : Calls Tryd.prog f args W fun e w' => e = .returned v ∧ Below W.heap.size W w' := h W hW
theorem Gives4.re {f : FuncId} {args : Array Value} {v : Value} (h : Gives4 f args v) {w : World} {d : Nat} {os : Array Obj} (hw : Four w) : Calls Tryd.prog f args (grow (redrawn w d) os) fun e w'' => e = .returned v ∧ ∃ p : Regrown, w'' = grow (redrawn w p.d) p.os := Calls.regrown_of (h _ (hw.below (below_regrown w d os)))
theorem Four.alloc {w : World} (h : Four w) (o : Obj) : Four (w.alloc o) := h.below ((Below.refl _ _).alloc (Nat.le_refl _) _)

theorem a_add {r s : Array Value} {x y : Int} (h : NumOf r x) (g : NumOf s y) : ∃ t, NumOf t (x + y) ∧ Gives 53 #[.agg r, .agg s] (.agg t) := by
  obtain ⟨a0, a1, a2, a3, a4, rfl, ⟨h0, h1, h2, h3, h4⟩, ha⟩ := h
  obtain ⟨b0, b1, b2, b3, b4, rfl, ⟨g0, g1, g2, g3, g4⟩, hb⟩ := g
  refine ⟨_, ⟨_, _, _, _, _, rfl, nr_bd _ ?_ ?_, ?_⟩, fun W => add_any a0 a1 a2 a3 a4 b0 b1 b2 b3 b4 h0.1 h0.2 h1.1 h1.2 h2.1 h2.2 h3.1 h3.2 h4.1 h4.2 g0.1 g0.2 g1.1 g1.2 g2.1 g2.2 g3.1 g3.2 g4.1 g4.2 W⟩
  rotate_right
  · rw [nr_val, Int.add_emod, ha, hb, ← Int.add_emod]
  all_goals (clear ha hb; simp only [v5]; omega)
theorem a_sub {r s : Array Value} {x y : Int} (h : NumOf r x) (g : NumOf s y) : ∃ t, NumOf t (x - y) ∧ Gives4 52 #[.agg r, .agg s] (.agg t) := by
  obtain ⟨a0, a1, a2, a3, a4, rfl, ⟨h0, h1, h2, h3, h4⟩, ha⟩ := h
  obtain ⟨b0, b1, b2, b3, b4, rfl, ⟨g0, g1, g2, g3, g4⟩, hb⟩ := g
  refine ⟨_, ⟨_, _, _, _, _, rfl, nr_bd _ ?_ ?_, ?_⟩, fun W hW => sub_any a0 a1 a2 a3 a4 b0 b1 b2 b3 b4 h0.1 h0.2 h1.1 h1.2 h2.1 h2.2 h3.1 h3.2 h4.1 h4.2 g0.1 g0.2 g1.1 g1.2 g2.1 g2.2 g3.1 g3.2 g4.1 g4.2 W hW⟩
  rotate_right
  · have e : v5 a0 a1 a2 a3 a4 + 231584178474632390847141970017375815706539969331281128078915168015826259279796 - v5 b0 b1 b2 b3 b4 = v5 a0 a1 a2 a3 a4 - v5 b0 b1 b2 b3 b4 - prm * (-4) := by unfold prm; omega
    rw [nr_val, e, Int.sub_mul_emod_self_left, Int.sub_emod, ha, hb, ← Int.sub_emod]
  all_goals (clear ha hb; simp only [v5]; omega)
theorem a_odd {r : Array Value} {x : Int} (h : NumOf r x) : Gives 76 #[.agg r] (.bool (byt (x % prm) 0 % 2 == 1)) := by
  obtain ⟨a0, a1, a2, a3, a4, rfl, ⟨h0, h1, h2, h3, h4⟩, ha⟩ := h
  intro W
  rw [← ha]
  exact odd_any a0 a1 a2 a3 a4 h0.1 h0.2 h1.1 h1.2 h2.1 h2.2 h3.1 h3.2 h4.1 h4.2 W
set_option maxHeartbeats 1000000 in
theorem a_neg {r : Array Value} {x : Int} (h : NumOf r x) : ∃ t, NumOf t (-x) ∧ Gives4 48 #[.agg r] (.agg t) := by
  obtain ⟨t, ht, c⟩ := a_sub num_zero h
  refine ⟨t, ht.congr (by rw [Int.zero_sub]), fun w hw => ?_⟩
  go_enter Tryd.func48, Tryd.ntmps48
  go_wp2_with (first | (refine wpList_load_row rfl 27 _ rfl w.heap.size rfl 27 r (0, 0) _ (hp2_0 w _ _) Tryd.underlying27 rfl h.info ?_) | fail)
  refine (c.at ((hw.alloc _).alloc _)).mono ?_
  rintro e w1 ⟨rfl, hb⟩
  have rZ : w1.heap[w.heap.size + 1]? = some (.cells #[.int .u64 0, .int .u64 0, .int .u64 0, .int .u64 0, .int .u64 0] 27 (0, 0)) := (hb.block _ (by simp)).trans (hp2_1 w _ _)
  have hbw : Below w.heap.size w w1 := (((Below.refl _ _).alloc (Nat.le_refl _) _).alloc (by simp) _).trans (hb.mono (by simp; omega))
  clear hb
  go_wp2_with (first | (refine wpList_store_row rfl 27 _ _ rfl (w.heap.size + 1) t rfl rfl 27 _ rZ ht.info (ht.fits rfl) ht.one ?_) | fail)
  exact bodyPost_ret (v := .agg t) (results_cell_row Tryd.results48 _ _ (w.heap.size + 1) _ t _ _ rfl (setRow_heap _ _ _ _ _ _ rZ) Tryd.underlying27 rfl ht.info) rfl ⟨rfl, below_setRow hbw (by omega) _⟩

end Go.Proofs.YtgfhoabgbgddbaaDoor

