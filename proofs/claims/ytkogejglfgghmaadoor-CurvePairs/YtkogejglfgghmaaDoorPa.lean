import Derived.Test.YtkogejglfgghmaaDoorProg
import Derived.WalkKit
import Derived.WalkSpells
import Derived.WalkLawsBesides
import Derived.Lib.QuietBelow
import Derived.BigQuiet
import Derived.Test.YtkogejglfgghmaaDoorSa
import Derived.Test.YtkogejglfgghmaaDoorSf
import Derived.Test.YtkogejglfgghmaaDoorSe
import Derived.Test.YtkogejglfgghmaaDoorSi
import Derived.Test.YtkogejglfgghmaaDoorSh
import Derived.RegionTactic
import Derived.Test.YtkogejglfgghmaaDoorSk
import Derived.Test.YtkogejglfgghmaaDoorSg
namespace Go.Proofs.YtkogejglfgghmaaDoor
open Go.RowKit Go.Sort
attribute [local go_sem] setCell_drewN alloc_drewN


/-- The cells of the package's number unit. -/
def ucells : Array Value := #[.int .u64 1718705420411056, .int .u64 234908883556509, .int .u64 2233514472574048, .int .u64 2117202627021982, .int .u64 765476049583133]
theorem unit_num : NumOf ucells uu := ⟨1718705420411056, 234908883556509, 2233514472574048, 2117202627021982, 765476049583133, rfl, by decide, by decide⟩
/-- What both package variables hold. -/
def Both (w : World) : Prop := Four w ∧ ∃ t fr, w.heap[1]? = some (.cells ucells t fr)
theorem Both.sz {w : World} (h : Both w) : 1 < w.heap.size := by
  obtain ⟨_, t, fr, hu⟩ := h
  exact (Array.getElem?_eq_some_iff.1 hu).1
theorem Both.belowN {w w' : World} {n : Nat} (h : Both w) (hn : 1 < n) (hb : Below n w w') : Both w' := by
  obtain ⟨h4, t, fr, hu⟩ := h
  exact ⟨h4.belowN (by omega) hb, t, fr, (hb.block 1 hn).trans hu⟩
theorem Both.below {w w' : World} (h : Both w) (hb : Below w.heap.size w w') : Both w' := h.belowN h.sz hb
theorem Both.alloc {w : World} (h : Both w) (o : Obj) : Both (w.alloc o) := h.below ((Below.refl _ _).alloc (Nat.le_refl _) _)
theorem Both.setRow {w : World} {g : Nat} (h : Both w) (hg : 1 < g) (cs : Array Value) : Both (w.setRow g cs) := h.belowN (n := 2) (by decide) (below_setRow (Below.refl _ _) hg cs)
def Gives5 (f : FuncId) (args : Array Value) (v : Value) : Prop := ∀ W, Both W → Calls Tryd.prog f args W fun e w' => e = .returned v ∧ Below W.heap.size W w'
theorem Gives5.at {f : FuncId} {args : Array Value} {v : Value} (h : Gives5 f args v) {W : World} (hW : Both W) : Calls Tryd.prog f args W fun e w' => e = .returned v ∧ Below W.heap.size W w' := h W hW
theorem Gives5.re {f : FuncId} {args : Array Value} {v : Value} (h : Gives5 f args v) {w : World} {d : Nat} {os : Array Obj} (hw : Both w) : Calls Tryd.prog f args (grow (redrawn w d) os) fun e w'' => e = .returned v ∧ ∃ p : Regrown, w'' = grow (redrawn w p.d) p.os := Calls.regrown_of (h _ (hw.below (below_regrown w d os)))
theorem odd_ev (x : Int) : (byt (x % prm) 0 % 2 == 1) = decide (x % prm % 2 = 1) := by
  have e : byt (x % prm) 0 % 2 = x % prm % 2 := by
    simp only [byt, Int.pow_zero, Int.ediv_one]
    omega
  rw [e]
  by_cases h : x % prm % 2 = 1
  · rw [decide_eq_true h, beq_iff_eq]; exact h
  · rw [decide_eq_false h, beq_eq_false_iff_ne]; exact h
theorem a_odd_ev {r : Array Value} {x : Int} (h : NumOf r x) : Gives 53 #[.agg r] (.bool (decide (x % prm % 2 = 1))) := by
  have := a_odd h
  rwa [odd_ev] at this
theorem a_swap_ev {r s : Array Value} {x : Int} (h : NumOf r x) (g : NumOf s (-x)) : ∃ p q y, NumOf p (ev x) ∧ NumOf q y ∧ Gives 10 #[.agg r, .agg s, .bool (decide (x % prm % 2 = 1))] (.tuple #[.agg p, .agg q]) := by
  have c := a_swap h g (decide (x % prm % 2 = 1))
  by_cases e : x % prm % 2 = 1
  · rw [decide_eq_true e] at c ⊢
    exact ⟨s, r, x, by unfold ev; rw [if_pos e]; exact g, h, c⟩
  · rw [decide_eq_false e] at c ⊢
    exact ⟨r, s, -x, by unfold ev; rw [if_neg e]; exact h, g, c⟩
/-- Two results: a row in a block, and a bool. -/
theorem results_row_slot {P : Program} {fn : Func} {p q : Tmp} {ty : TypeId} (h : fn.results = #[.cell p ty, .tmp q]) (tmps : Array Value) (w : World) (g : Nat) (t : TypeId) (cs : Array Value) (fr : Nat × Nat) (d : TypeDesc) (v : Value)
    (hp : tmps.getD p undef = .pointer (some ⟨g, 0, none⟩)) (hg : w.heap[g]? = some (.cells cs t fr)) (hq : tmps.getD q undef = v)
    (hu : P.underlying ty = some d) (hd : (match d with | .struct _ | .array _ _ => true | _ => false) = true) (hi : (P.info? ty).map (·.size) = some cs.size) :
    (results fn tmps).run P w = .ok (.tuple #[.agg cs, v]) w := by
  have hp' : tmps[p]?.getD undef = .pointer (some ⟨g, 0, none⟩) := by simpa using hp
  have hq' : tmps[q]?.getD undef = v := by simpa using hq
  simp [results, h, hp', hq', asAddr, run_loadVar_row w g t ty cs fr d hg hu hd hi]
theorem a_equal_t {r s : Array Value} {x y : Int} (h : NumOf r x) (g : NumOf s y) (e : x % prm = y % prm) : Gives 49 #[.agg r, .agg s] (.bool true) := by
  have := a_equal h g
  rwa [decide_eq_true e] at this
theorem a_equal_f {r s : Array Value} {x y : Int} (h : NumOf r x) (g : NumOf s y) (e : x % prm ≠ y % prm) : Gives 49 #[.agg r, .agg s] (.bool false) := by
  have := a_equal h g
  rwa [decide_eq_false e] at this

end Go.Proofs.YtkogejglfgghmaaDoor


namespace Go.Proofs.YtkogejglfgghmaaDoor
open Go Go.RowKit Go.Sort
theorem cut_at2 {P : Program} {md : Region.Mode} {ops : Array Oper} {Q : Exit → Act → World → Prop} {fuel : Nat} {listed : Array Bool} {a : Act} {w : World} (f2 : Nat) (l2 : Array Bool) (S : Nat → World → Prop) (a2 : Nat → Value → Act)
    (h1 : (∀ g v W, S g W → wpAny P md ops Q f2 l2 (a2 g v) W) → wpAny P md ops Q fuel listed a w) (h2 : ∀ g v W, S g W → wpAny P md ops Q f2 l2 (a2 g v) W) : wpAny P md ops Q fuel listed a w := h1 h2
/-- An operation that yields a value and a world. -/
theorem wp_world_op {P : Program} {o : Oper} {a : Act} {w : World} {K : Act → World → Prop} {Q : Exit → Act → World → Prop} (v : Value) (w' : World) (hx : (execOp a.eval o).run P w = .ok (.value v) w') (h : K (a.put o.dst v) w') : o.wp P a w K Q := by
  unfold Oper.wp
  rw [hx, Oper.upon_value]
  exact h
end Go.Proofs.YtkogejglfgghmaaDoor

namespace Go.Proofs.YtkogejglfgghmaaDoor
open Go.RowKit Go.Sort
attribute [local go_sem] setCell_drewN alloc_drewN


theorem bval_n255 : bval ((nl 255).set 0 (255 - (21 - 1))) = 57896044618658097711785492504343953926634992332820282019728792003956564819947 := by decide +kernel
set_option maxRecDepth 100000 in
set_option maxHeartbeats 2000000 in
theorem r_invert {m : Int} (h : inP m) : Gives 47 #[.agg (rd m)] (.agg (rd (m ^ 57896044618658097711785492504343953926634992332820282019728792003956564819947 % prm))) := by
  generalize hq : m ^ 57896044618658097711785492504343953926634992332820282019728792003956564819947 % prm = q
  have c4 := r_power h ((nl 255).set 0 (255 - (21 - 1)))
  rw [bval_n255, hq] at c4
  clear hq
  intro w
  go_enter Tryd.func47, Tryd.ntmps47
  go_wp2
  have rp0 : ((w.alloc (.cells (rd m) 30)).alloc (.cells #[.int .u64 0, .int .u64 0, .int .u64 0, .int .u64 0, .int .u64 0, .int .u64 0, .int .u64 0, .int .u64 0, .int .u64 0, .int .u64 0, .int .u64 0, .int .u64 0, .int .u64 0, .int .u64 0, .int .u64 0, .int .u64 0] 30)).heap[w.heap.size]? = some (.cells (rd m) 30 (0, 0)) := hp2_0 w _ _
  have rp1 : ((w.alloc (.cells (rd m) 30)).alloc (.cells #[.int .u64 0, .int .u64 0, .int .u64 0, .int .u64 0, .int .u64 0, .int .u64 0, .int .u64 0, .int .u64 0, .int .u64 0, .int .u64 0, .int .u64 0, .int .u64 0, .int .u64 0, .int .u64 0, .int .u64 0, .int .u64 0] 30)).heap[w.heap.size + 1]? = some (.cells #[.int .u64 0, .int .u64 0, .int .u64 0, .int .u64 0, .int .u64 0, .int .u64 0, .int .u64 0, .int .u64 0, .int .u64 0, .int .u64 0, .int .u64 0, .int .u64 0, .int .u64 0, .int .u64 0, .int .u64 0, .int .u64 0] 30 (0, 0)) := hp2_1 w _ _
  have hw : Below w.heap.size w ((w.alloc (.cells (rd m) 30)).alloc (.cells #[.int .u64 0, .int .u64 0, .int .u64 0, .int .u64 0, .int .u64 0, .int .u64 0, .int .u64 0, .int .u64 0, .int .u64 0, .int .u64 0, .int .u64 0, .int .u64 0, .int .u64 0, .int .u64 0, .int .u64 0, .int .u64 0] 30)) := (((Below.refl _ _).alloc (Nat.le_refl _) _).alloc (by simp) _)
  generalize ((w.alloc (.cells (rd m) 30)).alloc (.cells #[.int .u64 0, .int .u64 0, .int .u64 0, .int .u64 0, .int .u64 0, .int .u64 0, .int .u64 0, .int .u64 0, .int .u64 0, .int .u64 0, .int .u64 0, .int .u64 0, .int .u64 0, .int .u64 0, .int .u64 0, .int .u64 0] 30)) = w0 at *
  refine wp_region_any (by kernel_rfl) ?_
  have hb : Below w0.heap.size w0 { w0 with drawn := w0.drawn + 1 } := ⟨rfl, rfl, rfl, Nat.le_refl _, fun _ _ => rfl⟩
  generalize ({ w0 with drawn := w0.drawn + 1 } : World) = w1 at *
  replace rp0 := keep hb rp0
  replace rp1 := keep hb rp1
  replace hw := Below.after hw hb
  clear hb
  refine wpAny_ready (rs := [0, 1]) (fuel := 3) (by kernel_rfl) (by simp) (AllReady.cons rfl (fun K' hK => ?_) (AllReady.cons rfl (fun K' hK => ?_) AllReady.nil))
  · skip
    rw [if_pos (by kernel_rfl)]
    simp only [List.getElem_toArray, List.getElem_cons_zero]
    refine wp_load_row 30 _ rfl (w.heap.size) rfl 30 (rd m) (0, 0) _ rp0 Tryd.underlying30 rfl (rd_info m) (hK _ _ ?_)
    simp only [Act.put, List.setIfInBounds_toArray, List.set_cons_succ, List.set_cons_zero]
    clear hK
    refine wpAny_ready (rs := [1]) (fuel := 2) (by kernel_rfl) (by simp) (AllReady.cons rfl (fun K' hK => ?_) AllReady.nil)
    rw [if_pos (by kernel_rfl)]
    simp only [List.getElem_toArray, List.getElem_cons_succ, List.getElem_cons_zero]
    refine wp_call_ex (f := 78) (args := #[.int .i64 255, .int .i64 21]) (by kernel_rfl) (number_walk 255 21 (by decide) (by decide) (by decide) (by decide) w1) (fun v2 w2 ⟨hBv2, hb⟩ => hK _ _ ?_)
    simp only [Act.put, List.setIfInBounds_toArray, List.set_cons_succ, List.set_cons_zero]
    clear hK
    replace rp0 := keep hb rp0
    replace rp1 := keep hb rp1
    replace hw := Below.after hw hb
    clear hb
    refine wpAny_ready (rs := [2]) (fuel := 1) (by kernel_rfl) (by simp) (AllReady.cons rfl (fun K' hK => ?_) AllReady.nil)
    rw [if_pos (by kernel_rfl)]
    simp only [List.getElem_toArray, List.getElem_cons_succ, List.getElem_cons_zero]
    refine wp_call_op (f := 46) (args := #[.agg (rd m), v2]) (by kernel_rfl) (c4 _ _ hBv2) (fun w3 hb => hK _ _ ?_)
    simp only [Act.put, List.setIfInBounds_toArray, List.set_cons_succ, List.set_cons_zero]
    clear hK
    replace rp0 := keep hb rp0
    replace rp1 := keep hb rp1
    replace hw := Below.after hw hb
    replace hBv2 := hBv2.keep hb
    clear hb
    refine wpAny_ready (rs := [3]) (fuel := 0) (by kernel_rfl) (by simp) (AllReady.cons rfl (fun K' hK => ?_) AllReady.nil)
    rw [if_pos (by kernel_rfl)]
    simp only [List.getElem_toArray, List.getElem_cons_succ, List.getElem_cons_zero]
    refine wp_store_row 30 _ _ rfl (w.heap.size + 1) (rd q) rfl rfl 30 _ rp1 (rd_info q) ((rd_size 0).trans (rd_size q).symm) (rd_one q) (hK _ _ ?_)
    simp only [Act.put]
    clear hK
    replace rp0 := (setRow_other w3 (w.heap.size + 1) (w.heap.size) (rd q) (by first | assumption | omega)).trans rp0
    replace rp1 := setRow_heap w3 (w.heap.size + 1) _ (rd q) _ _ rp1
    replace hw := below_setRow hw (show w.heap.size ≤ w.heap.size + 1 by first | assumption | omega) (rd q)
    generalize w3.setRow (w.heap.size + 1) (rd q) = w5 at *
    refine wpAny_done (by kernel_rfl) ?_ _
    go_wp2
    exact bodyPost_ret (v := .agg (rd q)) (results_cell_row Tryd.results47 _ _ (w.heap.size + 1) _ (rd q) _ _ rfl rp1 Tryd.underlying30 rfl (rd_info q)) rfl ⟨rfl, hw⟩
  · skip
    rw [if_pos (by kernel_rfl)]
    simp only [List.getElem_toArray, List.getElem_cons_succ, List.getElem_cons_zero]
    refine wp_call_ex (f := 78) (args := #[.int .i64 255, .int .i64 21]) (by kernel_rfl) (number_walk 255 21 (by decide) (by decide) (by decide) (by decide) w1) (fun v6 w6 ⟨hBv6, hb⟩ => hK _ _ ?_)
    simp only [Act.put, List.setIfInBounds_toArray, List.set_cons_succ, List.set_cons_zero]
    clear hK
    replace rp0 := keep hb rp0
    replace rp1 := keep hb rp1
    replace hw := Below.after hw hb
    clear hb
    refine wpAny_ready (rs := [0]) (fuel := 2) (by kernel_rfl) (by simp) (AllReady.cons rfl (fun K' hK => ?_) AllReady.nil)
    rw [if_pos (by kernel_rfl)]
    simp only [List.getElem_toArray, List.getElem_cons_zero]
    refine wp_load_row 30 _ rfl (w.heap.size) rfl 30 (rd m) (0, 0) _ rp0 Tryd.underlying30 rfl (rd_info m) (hK _ _ ?_)
    simp only [Act.put, List.setIfInBounds_toArray, List.set_cons_succ, List.set_cons_zero]
    clear hK
    refine wpAny_ready (rs := [2]) (fuel := 1) (by kernel_rfl) (by simp) (AllReady.cons rfl (fun K' hK => ?_) AllReady.nil)
    rw [if_pos (by kernel_rfl)]
    simp only [List.getElem_toArray, List.getElem_cons_succ, List.getElem_cons_zero]
    refine wp_call_op (f := 46) (args := #[.agg (rd m), v6]) (by kernel_rfl) (c4 _ _ hBv6) (fun w7 hb => hK _ _ ?_)
    simp only [Act.put, List.setIfInBounds_toArray, List.set_cons_succ, List.set_cons_zero]
    clear hK
    replace rp0 := keep hb rp0
    replace rp1 := keep hb rp1
    replace hw := Below.after hw hb
    replace hBv6 := hBv6.keep hb
    clear hb
    refine wpAny_ready (rs := [3]) (fuel := 0) (by kernel_rfl) (by simp) (AllReady.cons rfl (fun K' hK => ?_) AllReady.nil)
    rw [if_pos (by kernel_rfl)]
    simp only [List.getElem_toArray, List.getElem_cons_succ, List.getElem_cons_zero]
    refine wp_store_row 30 _ _ rfl (w.heap.size + 1) (rd q) rfl rfl 30 _ rp1 (rd_info q) ((rd_size 0).trans (rd_size q).symm) (rd_one q) (hK _ _ ?_)
    simp only [Act.put]
    clear hK
    replace rp0 := (setRow_other w7 (w.heap.size + 1) (w.heap.size) (rd q) (by first | assumption | omega)).trans rp0
    replace rp1 := setRow_heap w7 (w.heap.size + 1) _ (rd q) _ _ rp1
    replace hw := below_setRow hw (show w.heap.size ≤ w.heap.size + 1 by first | assumption | omega) (rd q)
    generalize w7.setRow (w.heap.size + 1) (rd q) = w8 at *
    refine wpAny_done (by kernel_rfl) ?_ _
    go_wp2
    exact bodyPost_ret (v := .agg (rd q)) (results_cell_row Tryd.results47 _ _ (w.heap.size + 1) _ (rd q) _ _ rfl rp1 Tryd.underlying30 rfl (rd_info q)) rfl ⟨rfl, hw⟩


end Go.Proofs.YtkogejglfgghmaaDoor
