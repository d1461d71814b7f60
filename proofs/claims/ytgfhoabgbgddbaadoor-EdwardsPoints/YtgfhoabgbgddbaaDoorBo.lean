import Derived.Test.YtgfhoabgbgddbaaDoorProg
import Derived.WalkKit
import Derived.WalkSpells
import Derived.WalkLawsBesides
import Derived.Lib.QuietBelow
import Derived.BigQuiet
import Derived.Test.YtgfhoabgbgddbaaDoorKa
import Derived.Test.YtgfhoabgbgddbaaDoorAc
import Derived.Test.YtgfhoabgbgddbaaDoorAf
import Derived.Test.YtgfhoabgbgddbaaDoorAe
import Derived.Test.YtgfhoabgbgddbaaDoorGk
import Derived.Test.YtgfhoabgbgddbaaDoorGs
import Derived.Test.YtgfhoabgbgddbaaDoorMa
namespace Go.Proofs.YtgfhoabgbgddbaaDoor
set_option maxRecDepth 100000
open Go.RowKit Go.Sort
attribute [local go_sem] setCell_drewN alloc_drewN


/-- The cells of the package's number unit. -/
def ucells : Array Value := #[.int .u64 1718705420411056, .int .u64 234908883556509, .int .u64 2233514472574048, .int .u64 2117202627021982, .int .u64 765476049583133]
theorem unit_num : NumOf ucells uu := ⟨1718705420411056, 234908883556509, 2233514472574048, 2117202627021982, 765476049583133, rfl, by decide, by decide⟩
/-- What both package variables hold. -/
def Both (w : World) : Prop := Four w ∧ ∃ t fr, w.heap[4]? = some (.cells ucells t fr)
theorem Both.sz {w : World} (h : Both w) : 4 < w.heap.size := by
  obtain ⟨_, t, fr, hu⟩ := h
  exact (Array.getElem?_eq_some_iff.1 hu).1
theorem Both.belowN {w w' : World} {n : Nat} (h : Both w) (hn : 4 < n) (hb : Below n w w') : Both w' := by
  obtain ⟨h4, t, fr, hu⟩ := h
  exact ⟨h4.belowN (by omega) hb, t, fr, (hb.block 4 hn).trans hu⟩
theorem Both.below {w w' : World} (h : Both w) (hb : Below w.heap.size w w') : Both w' := h.belowN h.sz hb
theorem Both.alloc {w : World} (h : Both w) (o : Obj) : Both (w.alloc o) := h.below ((Below.refl _ _).alloc (Nat.le_refl _) _)
theorem Both.setRow {w : World} {g : Nat} (h : Both w) (hg : 4 < g) (cs : Array Value) : Both (w.setRow g cs) := h.belowN (n := 5) (by decide) (below_setRow (Below.refl _ _) hg cs)
def Gives5 (f : FuncId) (args : Array Value) (v : Value) : Prop := ∀ W, Both W → Calls Tryd.prog f args W fun e w' => e = .returned v ∧ Below W.heap.size W w'
theorem Gives5.at {f : FuncId} {args : Array Value} {v : Value} (h : Gives5 f args v) {W : World} (hW : Both W) : Calls Tryd.prog f args W fun e w' => e = .returned v ∧ Below W.heap.size W w' := h W hW
theorem Gives5.re {f : FuncId} {args : Array Value} {v : Value} (h : Gives5 f args v) {w : World} {d : Nat} {os : Array Obj} (hw : Both w) : Calls Tryd.prog f args (grow (redrawn w d) os) fun e w'' => e = .returned v ∧ ∃ p : Regrown, w'' = grow (redrawn w p.d) p.os := Calls.regrown_of (h _ (hw.below (below_regrown w d os)))
theorem odd_ev (x : Int) : (byt (x % prm) 0 % 2 == 1) = decide (x % prm % 2 = 1) := by
  have e : byt (x % prm) 0 % 2 = x % prm % 2 := by
    simp only [byt, Int.pow_zero, Int.ediv_one]
    omega
  rw [e]
  by_cases h : x % prm % 2 = 1
  · rw [decide_eq_true h, beq_iff_eq]; exact h
  · rw [decide_eq_false h, beq_eq_false_iff_ne]; exact h
theorem a_odd_ev {r : Array Value} {x : Int} (h : NumOf r x) : Gives 76 #[.agg r] (.bool (decide (x % prm % 2 = 1))) := by
  have := a_odd h
  rwa [odd_ev] at this
theorem a_swap_ev {r s : Array Value} {x : Int} (h : NumOf r x) (g : NumOf s (-x)) : ∃ p q y, NumOf p (ev x) ∧ NumOf q y ∧ Gives 102 #[.agg r, .agg s, .bool (decide (x % prm % 2 = 1))] (.tuple #[.agg p, .agg q]) := by
  have c := a_swap h g (decide (x % prm % 2 = 1))
  by_cases e : x % prm % 2 = 1
  · rw [decide_eq_true e] at c ⊢
    exact ⟨s, r, x, by unfold ev; rw [if_pos e]; exact g, h, c⟩
  · rw [decide_eq_false e] at c ⊢
    exact ⟨r, s, -x, by unfold ev; rw [if_neg e]; exact h, g, c⟩
/-- Two results: a row in a block, and a bool. -/
theorem results_row_slot {P : Program} {fn : Func} {p q : Tmp} {ty : TypeId} (h : fn.results = #[.cell p ty, .tmp q]) (tmps : Array Value) (w : World) (g : Nat) (t : TypeId) (cs : Array Value) (fr : Nat × Nat) (d : TypeDesc) (v : Value)
    (hp : tmps.getD p undef = .pointer (some ⟨g, 0, none⟩)) (hg : w.heap[g]? = some (.cells cs t fr)) (hq : tmps.getD q undef = v)
    (hu : P.underlying ty = some d) (hd : (match d with | .struct _ | .array _ _ => true | _ => false) = true) (hi : (P.info? ty).map (·.size) = some cs.size) :
    (results fn tmps).run P w = .ok (.tuple #[.agg cs, v]) w := by
  have hp' : tmps[p]?.getD undef = .pointer (some ⟨g, 0, none⟩) := by simpa using hp
  have hq' : tmps[q]?.getD undef = v := by simpa using hq
  simp [results, h, hp', hq', asAddr, run_loadVar_row w g t ty cs fr d hg hu hd hi]
theorem a_equal_t {r s : Array Value} {x y : Int} (h : NumOf r x) (g : NumOf s y) (e : x % prm = y % prm) : Gives 101 #[.agg r, .agg s] (.bool true) := by
  have := a_equal h g
  rwa [decide_eq_true e] at this
theorem a_equal_f {r s : Array Value} {x y : Int} (h : NumOf r x) (g : NumOf s y) (e : x % prm ≠ y % prm) : Gives 101 #[.agg r, .agg s] (.bool false) := by
  have := a_equal h g
  rwa [decide_eq_false e] at this

end Go.Proofs.YtgfhoabgbgddbaaDoor

