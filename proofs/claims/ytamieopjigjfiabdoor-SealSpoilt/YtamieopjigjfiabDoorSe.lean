import Derived.Test.YtamieopjigjfiabDoorProg
import Derived.WalkKit
import Derived.WalkSpells
import Derived.WalkLawsBesides
import Derived.Lib.QuietBelow
import Derived.BigQuiet
import Derived.OrdersHeld
import Derived.Lib.AppendZeros
import Derived.OwnWalk
import Derived.Deep.RegionHeld3
import Derived.Test.YtamieopjigjfiabDoorKa
import Derived.Test.YtamieopjigjfiabDoorSd
namespace Go.Proofs.YtamieopjigjfiabDoor
set_option maxRecDepth 100000
open Go Go.RowKit Go.Sort
attribute [local go_sem] setCell_drewN alloc_drewN

/-- Bytes laid behind a list of one's own, in a row of operations. -/
theorem wpList_append_B {ops : Array Oper} {rest : List Oper} {o : Oper} {a : Act} {w : World} {Q : Exit → Act → World → Prop} (hgd : o.guard = none) (s x : Operand) (ho : o.op = .call { callee := .builtin .append, args := #[s, x], argTypes := #[26, 26] }) (base : Nat) (v : Value) (d : List B) (hs : a.eval s = v) (hO : Own w base v d) (y : Value) (e : List B) (hx : a.eval x = y) (hE : BysB w y e) (hlen : d.length + e.length ≤ 140737488351232) (hbase : base ≤ w.heap.size)
    (h : ∀ v' w', Own w' base v' (d ++ e) → w.grownBy w' v.ownBlock → wpList Tryd.prog ops Q rest (a.put o.dst v') w') : wpList Tryd.prog ops Q (o :: rest) a w :=
  wpList_plain hgd fun _ hK => wp_append_bytes s x ho base v d hs hO y e hx hE hlen hbase (fun v' w' h1 h2 => hK _ _ (h v' w' h1 h2))
set_option maxRecDepth 100000 in
set_option maxHeartbeats 4000000 in
theorem a_grow (n : Nat) (h0 : 0 < n) (hn : n ≤ 140737488351232) (w : World) : Calls Tryd.prog 24 #[.slice none 0 0, .int .i64 (n : Int)] w fun e w' => ∃ v, e = .returned v ∧ Own w' w.heap.size v [] ∧ Below w.heap.size w w' := by
  obtain ⟨i0, hi, hz0, hz1, hz2⟩ := info8
  have hd1 : decide ((n : Int) < 0) = false := by simp
  have hd2 : decide ((0 : Int) < (n : Int)) = true := by simp; omega
  have hap := fun ty => Go.Lib.run_append_nil_zeros (P := Tryd.prog) w 26 3 ty 5 i0 (.int .u8 0) .i64 .i64 Tryd.underlying26 Tryd.underlying3 hi hz0 n h0 (by omega) (by omega) (by rw [hz2]; omega)
  have hge := grownCap_ge w n 0 5
  have hle := grownCap_le_maxLen w n 0 5 (by unfold maxLen; omega)
  have sl0 := slice_to (some ⟨w.heap.size, 0, none⟩) n (grownCap w n 0 5) 0 (by omega)
  have hcs : (Builtin.zeroCells #[Value.int .u8 0] n ++ Builtin.zeroCells #[Value.int .u8 0] (grownCap w n 0 5 - n)).size = grownCap w n 0 5 := by
    simp [Builtin.zeroCells]
    omega
  go_enter Tryd.func24, Tryd.ntmps24
  go_wp2_with (at_builtin; refine Go.Lib.wpList_append_run _ rfl _ _ _ _ rfl _ _ rfl rfl _ _ (hap _) ?_)
  clear hap
  generalize grownCap w n 0 5 = cap at *
  go_wp2
  generalize (Builtin.zeroCells #[Value.int .u8 0] n ++ Builtin.zeroCells #[Value.int .u8 0] (cap - n)) = Z at *
  go_ret
  refine ⟨_, rfl, ⟨rfl, .inr ⟨w.heap.size, cap, Z, rfl, Nat.le_refl _, ?_, Nat.zero_le _, hle, by omega, rfl⟩⟩, ?_⟩
  · exact hp1_0 w _
  · exact below_drN ((Below.refl _ _).alloc (Nat.le_refl _) _) 1
set_option maxRecDepth 100000 in
set_option maxHeartbeats 4000000 in
theorem a_concat2 (a b : List B) (w : World) (gp : Nat) (ao bo : Option Addr) (ac bc : Nat) (hP : w.heap[gp]? = some (.cells #[.slice ao a.length ac, .slice bo b.length bc] 26 (0, 0))) (hA : BysB w (.slice ao a.length ac) a) (hB : BysB w (.slice bo b.length bc) b) (h0 : 0 < a.length + b.length) (hl : a.length + b.length ≤ 140737488351232) : Calls Tryd.prog 14 #[.slice (some ⟨gp, 0, none⟩) 2 2] w fun e w' => ∃ v, e = .returned v ∧ Own w' w.heap.size v (a ++ b) ∧ Below w.heap.size w w' := by
  have c0 : w.cell? ⟨gp, 0, none⟩ = some (.slice ao a.length ac) := cell_of hP rfl
  have c1 : w.cell? ⟨gp, 1, none⟩ = some (.slice bo b.length bc) := cell_of hP rfl
  have lgp := lt_of_row hP
  have q1 : decide ((a.length : Int) < 0) = false := by simp
  have q2 : decide ((a.length : Int) + (b.length : Int) < 0) = false := by simp; omega
  have q3 : IntKind.i64.wrap ((a.length : Int) + (b.length : Int)) = (a.length : Int) + (b.length : Int) := by rw [IntKind.wrap_i64]; omega
  have cG := a_grow (a.length + b.length) h0 hl w
  rw [Int.natCast_add] at cG
  go_enter Tryd.func14, Tryd.ntmps14
  go_wp2
  refine wp_loop_rounds 3 ?_
  rw [rounds_succ]; go_wp2
  rw [rounds_succ]; go_wp2
  rw [rounds_succ]; go_wp2_with (fail)
  refine cG.mono ?_
  rintro e_ w1 ⟨v1, rfl, hO, hw⟩
  obtain ⟨ao1, ac1, rfl⟩ := slen_own hO
  clear cG q1 q2 q3
  replace c0 : w1.cell? ⟨gp, 0, none⟩ = some (.slice ao a.length ac) := (hw.cell (p := ⟨gp, 0, none⟩) lgp).trans c0
  go_wp2_with (fail)
  refine wp_loop_rounds 3 ?_
  rw [rounds_succ]
  go_wp2_with (at_builtin; refine wpList_append_B rfl (.tmp 31) (.tmp 32) rfl w.heap.size _ [] rfl hO _ a rfl (hA.keep hw) (by simp only [List.length_nil]; omega) hw.size ?_)
  intro v2 w2 hO2 hgr
  replace hw := hw.grown hgr hw.size (own_low hO)
  obtain ⟨ao2, ac2, rfl⟩ := slen_own hO2
  clear hgr hO c0
  replace c1 : w2.cell? ⟨gp, 1, none⟩ = some (.slice bo b.length bc) := (hw.cell (p := ⟨gp, 1, none⟩) lgp).trans c1
  go_wp2_with (fail)
  rw [rounds_succ]
  go_wp2_with (at_builtin; refine wpList_append_B rfl (.tmp 31) (.tmp 32) rfl w.heap.size _ a rfl hO2 _ b rfl (hB.keep hw) hl hw.size ?_)
  intro v3 w3 hO3 hgr
  replace hw := hw.grown hgr hw.size (own_low hO2)
  obtain ⟨ao3, ac3, rfl⟩ := slen_own hO3
  clear hgr hO2 c1
  go_wp2_with (fail)
  rw [rounds_succ]; go_wp2_with (fail)
  go_ret
  exact ⟨_, rfl, hO3, hw⟩

end Go.Proofs.YtamieopjigjfiabDoor
