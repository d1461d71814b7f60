import Derived.Test.YtebgdenfaiinmaaProg
import Derived.WalkKit
import Derived.WalkSpells
import Derived.WalkLawsBesides
import Derived.Lib.QuietBelow
import Derived.BigQuiet
import Derived.OrdersHeld
import Derived.Deep.RegionHeld3
import Derived.OwnWalk
import Derived.Test.YtebgdenfaiinmaaKit
import Derived.Test.YtebgdenfaiinmaaSqd
namespace Go.Proofs.Ytebgdenfaiinmaa
open Go Go.RowKit Go.Sort Go.ChangeMaps Go.MapKept
attribute [local go_sem] setCell_drewN alloc_drewN

theorem wpList_buildw {P : Program} {ops : Array Oper} {rest : List Oper} {o : Oper} {a : Act} {w : World} {Q : Exit → Act → World → Prop} (hw : Region.wanted o (yielded ops a.tmps) = true) (t : TypeId) (parts : Array (Nat × Operand)) (ho : o.op = .build t parts)
    (vals : List (Nat × Value)) (hv : parts.toList.map (fun (i, x) => (i, a.eval x)) = vals) (cells : Array Value) (hb : P.built t vals = some cells)
    (h : wpList P ops Q rest (a.put o.dst (.agg cells)) w) : wpList P ops Q (o :: rest) a w :=
  BigFrame.wpList_want hw fun _ hK => wp_world_op _ _ (run_build_op t parts ho vals hv cells hb) (hK _ _ h)
theorem builtPr (x y : Addr) : Try.prog.built 32 [(0, .pointer (some x)), (1, .pointer (some y))] = some #[.pointer (some x), .pointer (some y)] := by kernel_rfl
theorem builtSh : Try.prog.built 37 [] = some #[.slice none 0 0, .slice none 0 0, .slice none 0 0, .slice none 0 0] := by kernel_rfl
theorem bSh (cs : Array Value) (W : World) : (Instr.box 37 (.agg cs)).run Try.prog W = .ok (.pointer (some ⟨W.heap.size, 0, none⟩)) (W.alloc (.cells cs 37)) := by kernel_rfl
set_option maxRecDepth 100000 in
set_option maxHeartbeats 4000000 in
theorem froms_no (most : Int) (u : Value) (w : World) (E : Int) (cA : Calls Try.prog 15 #[.int .i64 most, u] w fun e w' => e = .returned (.tuple #[.pointer none, .int .i64 E]) ∧ Below w.heap.size w w') (cB : ∀ W, Below w.heap.size w W → Calls Try.prog 16 #[.int .i64 most, u] W fun e w' => e = .returned (.tuple #[.pointer none, .int .i64 E]) ∧ Below W.heap.size W w') : Calls Try.prog 4 #[.int .i64 most, u] w fun e w' => e = .returned (.bool true) ∧ Below w.heap.size w w' := by
  go_enter Try.func4, Try.ntmps4
  go_wp2_with (fail)
  refine cA.mono ?_
  rintro e_ w1 ⟨rfl, hb⟩
  go_wp2_with (fail)
  refine (cB w1 hb).mono ?_
  rintro e_ w2 ⟨rfl, hb2⟩
  replace hb := Below.after hb hb2
  go_wp2_with (fail)
  go_ret
  exact ⟨rfl, hb⟩
set_option maxRecDepth 100000 in
set_option maxHeartbeats 4000000 in
theorem froms_go (most : Int) (h0 : 0 ≤ most) (h1 : most ≤ 2000) (q : List Sr) (u : Value) (w : World) (hq : SpL w u q) (hm : mts [] q = false) (hl : (q.length : Int) ≤ most) : Calls Try.prog 4 #[.int .i64 most, u] w fun e w' => e = .returned (.bool true) ∧ Below w.heap.size w w' := by
  have cA := a_From_go most h0 h1 q u w hq hm hl
  go_enter Try.func4, Try.ntmps4
  go_wp2_with (fail)
  refine cA.mono ?_
  rintro e_ w1 ⟨g, b, v, rfl, hS, hb⟩
  have cB := r_From_go most h0 h1 q u w1 (hq.keep hb) hm hl
  clear cA
  go_wp2_with (fail)
  refine cB.mono ?_
  rintro e_ w2 ⟨g2, v2, rfl, hR, hb2⟩
  replace hS := hS.keep hb2
  replace hb := Below.after hb hb2
  have szw := hb.size
  clear cB hb2
  have hb3 : Below w2.heap.size w2 (w2.alloc (.cells #[.slice none 0 0, .slice none 0 0, .slice none 0 0, .slice none 0 0] 37)) := (Below.refl _ _).alloc (Nat.le_refl _) _
  have cS := l_psame w.heap.size g b v most q w1.heap.size g2 v2 w2.heap.size _ (hS.keep hb3) (hR.keep hb3) (hp1_0 _ _)
  have eB := builtPr ⟨g, 0, none⟩ ⟨g2, 0, none⟩
  go_wp2_with (first | (refine wpList_buildw rfl 32 _ rfl [(0, (.pointer (some ⟨g, 0, none⟩))), (1, (.pointer (some ⟨g2, 0, none⟩)))] rfl #[(.pointer (some ⟨g, 0, none⟩)), (.pointer (some ⟨g2, 0, none⟩))] eB ?_) | (refine wpList_buildw rfl 37 _ rfl [] rfl #[.slice none 0 0, .slice none 0 0, .slice none 0 0, .slice none 0 0] builtSh ?_) | (refine wpList_box rfl 37 _ rfl #[.slice none 0 0, .slice none 0 0, .slice none 0 0, .slice none 0 0] rfl (bSh _) ?_) | fail)
  refine cS.mono ?_
  rintro e_ w4 ⟨rfl, hf⟩
  have hb5 : Below w.heap.size w w4 := Below.trans (Below.after hb hb3) (hf.below (fun k e => by rw [e]; exact szw) (by have := hb3.size; omega))
  clear hf hb3 hb
  go_wp2_with (fail)
  go_ret
  exact ⟨rfl, hb5⟩
theorem froms_any (most : Int) (q : List Sr) (u : Value) (w : World) (hq : SpL w u q) : Calls Try.prog 4 #[.int .i64 most, u] w fun e w' => e = .returned (.bool true) ∧ Below w.heap.size w w' := by
  by_cases h : 0 ≤ most ∧ most ≤ 2000
  · obtain ⟨h0, h1⟩ := h
    rcases pe_cases [] q most with ⟨_, hm, hl⟩ | he
    · exact froms_go most h0 h1 q u w hq hm (by simpa using hl)
    · have hne : pe [] q most ≠ 0 := by omega
      exact froms_no most u w _ (a_From_no most h0 h1 q u w hq _ rfl hne) (fun W hb => r_From_no most h0 h1 q u W (hq.keep hb) _ rfl hne)
  · have hx : most < 0 ∨ 2000 < most := by omega
    exact froms_no most u w 1 (a_From_bad most hx u w) (fun W _ => r_From_bad most hx u W)

end Go.Proofs.Ytebgdenfaiinmaa
