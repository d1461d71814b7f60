import Derived.Test.YtgfeacnhdlgpoaaDoorProg
import Derived.WalkKit
import Derived.WalkSpells
import Derived.WalkLawsBesides
import Derived.Lib.QuietBelow
import Derived.BigQuiet
import Derived.OrdersHeld
import Derived.OwnWalk
import Derived.Deep.RegionHeld3
import Derived.Deep.Cut
import Derived.Deep.CutRange
import Derived.Test.YtgfeacnhdlgpoaaDoorTrc
import Derived.Test.YtgfeacnhdlgpoaaDoorTrl
namespace Go.Proofs.YtgfeacnhdlgpoaaDoor
set_option maxRecDepth 100000
open Go Go.RowKit Go.Sort
attribute [local go_sem] setCell_drewN alloc_drewN
theorem zk32 : (#[.int .u8 0, .int .u8 0, .int .u8 0, .int .u8 0, .int .u8 0, .int .u8 0, .int .u8 0, .int .u8 0, .int .u8 0, .int .u8 0, .int .u8 0, .int .u8 0, .int .u8 0, .int .u8 0, .int .u8 0, .int .u8 0, .int .u8 0, .int .u8 0, .int .u8 0, .int .u8 0, .int .u8 0, .int .u8 0, .int .u8 0, .int .u8 0, .int .u8 0, .int .u8 0, .int .u8 0, .int .u8 0, .int .u8 0, .int .u8 0, .int .u8 0, .int .u8 0] : Array Value) = irow .u8 (zr 32) := rfl
theorem irow_one8 (l : List Int) : (irow .u8 l).all (·.oneCell') = true := by
  rw [irow, List.all_toArray, List.all_eq_true]
  exact ints_one .u8 l
/-- A list of bytes of one's own. -/
def OwnI (W : World) (b : Nat) (v : Value) (l : List Int) : Prop := W.ownsRow b 5 1 v l.length (l.map (Value.int .u8))
theorem OwnI.move {W W' : World} {b : Nat} {v : Value} {l : List Int} (h : OwnI W b v l) (hm : ∀ g o, v.ownBlock = some g → W.heap[g]? = some o → W'.heap[g]? = some o) : OwnI W' b v l := by
  obtain ⟨h1, h2 | ⟨g, cap, cur, e, hbg, hg, h3⟩⟩ := h
  · exact ⟨h1, .inl h2⟩
  · exact ⟨h1, .inr ⟨g, cap, cur, e, hbg, hm g _ (by rw [e]; rfl) hg, h3⟩⟩
theorem OwnI.keep {W W' : World} {b : Nat} {v : Value} {l : List Int} (h : OwnI W b v l) (hb : Below W.heap.size W W') : OwnI W' b v l := h.move (fun _ _ _ hg => Go.Proofs.YtgfeacnhdlgpoaaDoor.keep hb hg)
theorem OwnI.lt {W : World} {b : Nat} {v : Value} {l : List Int} (h : OwnI W b v l) : ∀ k, v.ownBlock = some k → b ≤ k ∧ k < W.heap.size := World.ownsRow.lt h
theorem OwnI.down {W : World} {b c : Nat} {v : Value} {l : List Int} (h : OwnI W b v l) (hc : c ≤ b) : OwnI W c v l := by
  obtain ⟨h1, h2 | ⟨g, cap, cur, e1, hb, h3⟩⟩ := h
  · exact ⟨h1, .inl h2⟩
  · exact ⟨h1, .inr ⟨g, cap, cur, e1, Nat.le_trans hc hb, h3⟩⟩
theorem OwnI.form {W : World} {b : Nat} {v : Value} {l : List Int} (h : OwnI W b v l) : ∃ ao cap, v = .slice ao l.length cap := by
  obtain ⟨_, ⟨rfl, h0⟩ | ⟨g, cap, cur, rfl, _⟩⟩ := h
  · exact ⟨none, 0, by rw [h0]⟩
  · exact ⟨_, _, rfl⟩
theorem infB : ∃ i, Tryd.prog.info? 5 = some i ∧ i.zero = some (.int .u8 0) ∧ i.size = 1 ∧ i.bytes = 1 := ⟨_, rfl, rfl, rfl, rfl⟩
theorem slice_to (ao : Option Addr) (len cap n : Nat) (h : n ≤ cap) (W : World) : (Instr.sliceAt 22 (.slice ao len cap) none (some (.int .i64 (n : Int))) none).run Tryd.prog W = .ok (.slice ao n cap) W := by
  rw [run_sliceAt_slice _ _ _ _ _ _ elem8, run_slice_h W 22 ao len cap elem8 .i64 _ (by omega) (by omega), size8]
  show Result.ok (sliced _ _ _ _ 1) W = _
  rw [Int.toNat_natCast, sliced, Nat.zero_mul]
  by_cases e : cap = 0
  · rw [if_pos e]; rfl
  · rw [if_neg e]
    cases ao <;> rfl
set_option maxRecDepth 100000 in
set_option maxHeartbeats 4000000 in
theorem a_grow (n : Nat) (h0 : 0 < n) (hn : n ≤ 140737488354000) (w : World) : Calls Tryd.prog 58 #[.slice none 0 0, .int .i64 (n : Int)] w fun e w' => ∃ v, e = .returned v ∧ OwnI w' w.heap.size v [] ∧ Below w.heap.size w w' := by
  obtain ⟨i0, hi, hz0, hz1, hz2⟩ := infB
  have hd1 : decide ((n : Int) < 0) = false := by simp
  have hd2 : decide ((0 : Int) < (n : Int)) = true := by simp; omega
  have hap := fun ty => Go.Lib.run_append_nil_zeros (P := Tryd.prog) w 22 3 ty 5 i0 (.int .u8 0) .i64 .i64 Tryd.underlying22 Tryd.underlying3 hi hz0 n h0 (by omega) (by omega) (by rw [hz2]; omega)
  have hge := grownCap_ge w n 0 5
  have hle := grownCap_le_maxLen w n 0 5 (by unfold maxLen; omega)
  have sl0 := slice_to (some ⟨w.heap.size, 0, none⟩) n (grownCap w n 0 5) 0 (by omega)
  have hcs : (Builtin.zeroCells #[Value.int .u8 0] n ++ Builtin.zeroCells #[Value.int .u8 0] (grownCap w n 0 5 - n)).size = grownCap w n 0 5 := by
    simp [Builtin.zeroCells]
    omega
  go_enter Tryd.func58, Tryd.ntmps58
  go_wp2_with (at_builtin; refine Go.Lib.wpList_append_run _ rfl _ _ _ _ rfl _ _ rfl rfl _ _ (hap _) ?_)
  clear hap
  generalize grownCap w n 0 5 = cap at *
  go_wp2
  generalize (Builtin.zeroCells #[Value.int .u8 0] n ++ Builtin.zeroCells #[Value.int .u8 0] (cap - n)) = Z at *
  go_ret
  refine ⟨_, rfl, ⟨rfl, .inr ⟨w.heap.size, cap, Z, rfl, Nat.le_refl _, ?_, Nat.zero_le _, hle, by omega, rfl⟩⟩, ?_⟩
  · exact hp1_0 w _
  · exact below_drN ((Below.refl _ _).alloc (Nat.le_refl _) _) 1
theorem bys_row1 {W : World} {g : Nat} {l : List Int} {t : TypeId} {fr : Nat × Nat} (hg : W.heap[g]? = some (.cells (irow .u8 l) t fr)) (hl : l.length ≤ 9223372036854775807) (hz : ∀ z ∈ l, 0 ≤ z ∧ z < 256) (cap : Nat) : Bys W (.slice (some ⟨g, 0, none⟩) l.length cap) l :=
  ⟨_, cap, rfl, hl, fun j hj => ⟨g, 0, rfl, lt_of_row hg, by rw [Nat.zero_add, cell_of_row _ _ _ _ _ _ hg, irow, List.getElem?_toArray, List.getElem?_map, List.getElem?_eq_getElem hj, List.getD_eq_getElem?_getD, List.getElem?_eq_getElem hj]; rfl⟩, hz⟩
theorem OwnI.bys {W : World} {b : Nat} {v : Value} {l : List Int} (h : OwnI W b v l) (hl : l.length ≤ 9223372036854775807) (hz : ∀ z ∈ l, 0 ≤ z ∧ z < 256) : Bys W v l := Bys.of_own h hl hz
theorem OwnI.cap {W : World} {b : Nat} {v : Value} {l : List Int} (h : OwnI W b v l) : ∀ a n c, v = .slice a n c → n ≤ c := by
  rintro a n c rfl
  obtain ⟨h1, ⟨e, h0⟩ | ⟨g, cap, cur, e, hb, hg, hn, _⟩⟩ := h
  · cases e; exact Nat.le_refl _
  · cases e; exact hn
theorem OwnI.nilc {W : World} {b : Nat} {v : Value} {l : List Int} (h : OwnI W b v l) : ∀ a n c, v = .slice a n c → a = none → c = 0 := by
  rintro a n c rfl rfl
  obtain ⟨h1, ⟨e, h0⟩ | ⟨g, cap, cur, e, hb, hg, hn, _⟩⟩ := h
  · cases e; rfl
  · cases e
/-- Bytes laid behind a list of one's own, in a row of operations. -/
theorem wpList_append_I {ops : Array Oper} {rest : List Oper} {o : Oper} {a : Act} {w : World} {Q : Exit → Act → World → Prop} (hgd : o.guard = none) (s x : Operand) (ho : o.op = .call { callee := .builtin .append, args := #[s, x], argTypes := #[22, 22] }) (base : Nat) (v : Value) (d : List Int) (hs : a.eval s = v) (hO : OwnI w base v d) (y : Value) (e : List Int) (hx : a.eval x = y) (hE : Bys w y e) (hnil : ∀ a l c, y = .slice a l c → a = none → c = 0) (hlen : d.length + e.length ≤ 140737488355328) (hbase : base ≤ w.heap.size)
    (h : ∀ v' w', OwnI w' base v' (d ++ e) → w.grownBy w' v.ownBlock → wpList Tryd.prog ops Q rest (a.put o.dst v') w') : wpList Tryd.prog ops Q (o :: rest) a w := by
  obtain ⟨i0, hi, hz0, hz1, hz2⟩ := infB
  obtain ⟨ao, cap, rfl, h1, h2, h3⟩ := id hE
  refine wpList_append_own_any w hgd s x 22 ho base 5 i0 (.int .u8 0) Tryd.underlying22 hi hz0 hz1 hz2 rfl v d.length (d.map (Value.int .u8)) hs hO ao e.length cap (e.map (Value.int .u8)) hx (by simp) (fun e0 => ?_) (bys_cells hE) (ints_one .u8 _) (by unfold maxLen; omega) (by omega) hbase (fun v' w' q1 q2 => h v' w' ?_ q2)
  · refine ⟨?_, hnil _ _ _ rfl e0⟩
    rcases Nat.eq_zero_or_pos e.length with q | q
    · exact q
    · obtain ⟨b, off, e1, _⟩ := h2 0 q
      rw [e0] at e1; cases e1
  · unfold OwnI
    rw [List.length_append, List.map_append]
    exact q1
set_option maxRecDepth 100000 in
set_option maxHeartbeats 8000000 in
theorem a_concat2 (a b : List Int) (w : World) (gp : Nat) (ao bo : Option Addr) (ac bc : Nat) (hP : w.heap[gp]? = some (.cells #[.slice ao a.length ac, .slice bo b.length bc] 22 (0, 0))) (ha : Bys w (.slice ao a.length ac) a) (na : ao = none → ac = 0) (hb : Bys w (.slice bo b.length bc) b) (nb : bo = none → bc = 0) (h0 : 0 < a.length + b.length) (hl : a.length + b.length ≤ 140737488354000) : Calls Tryd.prog 41 #[.slice (some ⟨gp, 0, none⟩) 2 2] w fun e w' => ∃ v, e = .returned v ∧ OwnI w' w.heap.size v (a ++ b) ∧ Below w.heap.size w w' := by
  have c0 : w.cell? ⟨gp, 0, none⟩ = some (.slice ao a.length ac) := cell_of hP rfl
  have c1 : w.cell? ⟨gp, 1, none⟩ = some (.slice bo b.length bc) := cell_of hP rfl
  have lgp := lt_of_row hP
  have q0 : decide ((a.length : Int) < 0) = false := by simp <;> omega
  have q1 : decide ((a.length : Int) + (b.length : Int) < 0) = false := by simp <;> omega
  have r1 : IntKind.i64.wrap ((a.length : Int) + (b.length : Int)) = (a.length : Int) + (b.length : Int) := by rw [IntKind.wrap_i64]; omega
  have cG := a_grow (a.length + b.length) h0 hl w
  rw [Int.natCast_add] at cG
  go_enter Tryd.func41, Tryd.ntmps41
  go_wp2
  refine wp_loop_rounds 3 ?_
  rw [rounds_succ]; go_wp2
  rw [rounds_succ]; go_wp2
  rw [rounds_succ]; go_wp2_with (fail)
  refine cG.mono ?_
  rintro e_ w1 ⟨v1, rfl, hO, hw⟩
  obtain ⟨ao1, ac1, rfl⟩ := slen_own hO
  clear cG q0 q1 r1
  go_wp2_with (fail)
  refine wp_loop_rounds 3 ?_
  have k0 : w1.cell? ⟨gp, 0, none⟩ = some (.slice ao a.length ac) := (hw.cell (p := ⟨gp, 0, none⟩) lgp).trans c0
  rw [rounds_succ]
  go_wp2_with (at_builtin; refine wpList_append_I rfl (.tmp 31) (.tmp 32) rfl w.heap.size _ ([]) rfl hO _ a rfl (ha.keep hw) (by intro a_ l_ c_ e_ e0; cases e_; exact na e0) (by simp only [List.length_nil]; omega) hw.size ?_)
  intro v2 w2 hO_ hgr
  replace hw := hw.grown hgr hw.size (fun k e => (hO.lt k (by first | exact e | (rw [← e]; cases ao1 <;> rfl))).1)
  clear hO
  have hO : OwnI w2 w.heap.size v2 (a) := by first | exact hO_ | (rw [List.append_assoc]; exact hO_)
  clear hO_
  obtain ⟨ao2, ac2, rfl⟩ := slen_own hO
  clear hgr c0 k0
  go_wp2_with (fail)
  have k1 : w2.cell? ⟨gp, 1, none⟩ = some (.slice bo b.length bc) := (hw.cell (p := ⟨gp, 1, none⟩) lgp).trans c1
  rw [rounds_succ]
  go_wp2_with (at_builtin; refine wpList_append_I rfl (.tmp 31) (.tmp 32) rfl w.heap.size _ (a) rfl hO _ b rfl (hb.keep hw) (by intro a_ l_ c_ e_ e0; cases e_; exact nb e0) (by omega) hw.size ?_)
  intro v3 w3 hO_ hgr
  replace hw := hw.grown hgr hw.size (fun k e => (hO.lt k (by first | exact e | (rw [← e]; cases ao2 <;> rfl))).1)
  clear hO
  have hO : OwnI w3 w.heap.size v3 (a ++ b) := by first | exact hO_ | (rw [List.append_assoc]; exact hO_)
  clear hO_
  obtain ⟨ao3, ac3, rfl⟩ := slen_own hO
  clear hgr c1 k1
  go_wp2_with (fail)
  rw [rounds_succ]; go_wp2_with (fail)
  go_ret
  exact ⟨_, rfl, hO, hw⟩
set_option maxRecDepth 100000 in
set_option maxHeartbeats 8000000 in
theorem a_concat3 (a b c : List Int) (w : World) (gp : Nat) (ao bo co : Option Addr) (ac bc cc : Nat) (hP : w.heap[gp]? = some (.cells #[.slice ao a.length ac, .slice bo b.length bc, .slice co c.length cc] 22 (0, 0))) (ha : Bys w (.slice ao a.length ac) a) (na : ao = none → ac = 0) (hb : Bys w (.slice bo b.length bc) b) (nb : bo = none → bc = 0) (hc : Bys w (.slice co c.length cc) c) (nc : co = none → cc = 0) (h0 : 0 < a.length + b.length + c.length) (hl : a.length + b.length + c.length ≤ 140737488354000) : Calls Tryd.prog 41 #[.slice (some ⟨gp, 0, none⟩) 3 3] w fun e w' => ∃ v, e = .returned v ∧ OwnI w' w.heap.size v (a ++ b ++ c) ∧ Below w.heap.size w w' := by
  have c0 : w.cell? ⟨gp, 0, none⟩ = some (.slice ao a.length ac) := cell_of hP rfl
  have c1 : w.cell? ⟨gp, 1, none⟩ = some (.slice bo b.length bc) := cell_of hP rfl
  have c2 : w.cell? ⟨gp, 2, none⟩ = some (.slice co c.length cc) := cell_of hP rfl
  have lgp := lt_of_row hP
  have q0 : decide ((a.length : Int) < 0) = false := by simp <;> omega
  have q1 : decide ((a.length : Int) + (b.length : Int) < 0) = false := by simp <;> omega
  have r1 : IntKind.i64.wrap ((a.length : Int) + (b.length : Int)) = (a.length : Int) + (b.length : Int) := by rw [IntKind.wrap_i64]; omega
  have q2 : decide ((a.length : Int) + (b.length : Int) + (c.length : Int) < 0) = false := by simp <;> omega
  have r2 : IntKind.i64.wrap ((a.length : Int) + (b.length : Int) + (c.length : Int)) = (a.length : Int) + (b.length : Int) + (c.length : Int) := by rw [IntKind.wrap_i64]; omega
  have cG := a_grow (a.length + b.length + c.length) h0 hl w
  rw [Int.natCast_add, Int.natCast_add] at cG
  go_enter Tryd.func41, Tryd.ntmps41
  go_wp2
  refine wp_loop_rounds 4 ?_
  rw [rounds_succ]; go_wp2
  rw [rounds_succ]; go_wp2
  rw [rounds_succ]; go_wp2
  rw [rounds_succ]; go_wp2_with (fail)
  refine cG.mono ?_
  rintro e_ w1 ⟨v1, rfl, hO, hw⟩
  obtain ⟨ao1, ac1, rfl⟩ := slen_own hO
  clear cG q0 q1 q2 r1 r2
  go_wp2_with (fail)
  refine wp_loop_rounds 4 ?_
  have k0 : w1.cell? ⟨gp, 0, none⟩ = some (.slice ao a.length ac) := (hw.cell (p := ⟨gp, 0, none⟩) lgp).trans c0
  rw [rounds_succ]
  go_wp2_with (at_builtin; refine wpList_append_I rfl (.tmp 31) (.tmp 32) rfl w.heap.size _ ([]) rfl hO _ a rfl (ha.keep hw) (by intro a_ l_ c_ e_ e0; cases e_; exact na e0) (by simp only [List.length_nil]; omega) hw.size ?_)
  intro v2 w2 hO_ hgr
  replace hw := hw.grown hgr hw.size (fun k e => (hO.lt k (by first | exact e | (rw [← e]; cases ao1 <;> rfl))).1)
  clear hO
  have hO : OwnI w2 w.heap.size v2 (a) := by first | exact hO_ | (rw [List.append_assoc]; exact hO_)
  clear hO_
  obtain ⟨ao2, ac2, rfl⟩ := slen_own hO
  clear hgr c0 k0
  go_wp2_with (fail)
  have k1 : w2.cell? ⟨gp, 1, none⟩ = some (.slice bo b.length bc) := (hw.cell (p := ⟨gp, 1, none⟩) lgp).trans c1
  rw [rounds_succ]
  go_wp2_with (at_builtin; refine wpList_append_I rfl (.tmp 31) (.tmp 32) rfl w.heap.size _ (a) rfl hO _ b rfl (hb.keep hw) (by intro a_ l_ c_ e_ e0; cases e_; exact nb e0) (by omega) hw.size ?_)
  intro v3 w3 hO_ hgr
  replace hw := hw.grown hgr hw.size (fun k e => (hO.lt k (by first | exact e | (rw [← e]; cases ao2 <;> rfl))).1)
  clear hO
  have hO : OwnI w3 w.heap.size v3 (a ++ b) := by first | exact hO_ | (rw [List.append_assoc]; exact hO_)
  clear hO_
  obtain ⟨ao3, ac3, rfl⟩ := slen_own hO
  clear hgr c1 k1
  go_wp2_with (fail)
  have k2 : w3.cell? ⟨gp, 2, none⟩ = some (.slice co c.length cc) := (hw.cell (p := ⟨gp, 2, none⟩) lgp).trans c2
  rw [rounds_succ]
  go_wp2_with (at_builtin; refine wpList_append_I rfl (.tmp 31) (.tmp 32) rfl w.heap.size _ (a ++ b) rfl hO _ c rfl (hc.keep hw) (by intro a_ l_ c_ e_ e0; cases e_; exact nc e0) (by simp only [List.length_append]; omega) hw.size ?_)
  intro v4 w4 hO_ hgr
  replace hw := hw.grown hgr hw.size (fun k e => (hO.lt k (by first | exact e | (rw [← e]; cases ao3 <;> rfl))).1)
  clear hO
  have hO : OwnI w4 w.heap.size v4 (a ++ b ++ c) := by first | exact hO_ | (rw [List.append_assoc]; exact hO_)
  clear hO_
  obtain ⟨ao4, ac4, rfl⟩ := slen_own hO
  clear hgr c2 k2
  go_wp2_with (fail)
  rw [rounds_succ]; go_wp2_with (fail)
  go_ret
  exact ⟨_, rfl, hO, hw⟩
/-- The hash of the byte 0 and bytes. -/
def lfL (b : List Int) : List Int := sumL (0 :: b)
theorem cons_bd {z : Int} {l : List Int} (h0 : 0 ≤ z ∧ z < 256) (h : ∀ y ∈ l, 0 ≤ y ∧ y < 256) : ∀ y ∈ z :: l, 0 ≤ y ∧ y < 256 := fun y hy => (List.mem_cons.1 hy).elim (fun e => e ▸ h0) (h y)
theorem nd_eq (a b : List Int) : [1] ++ a ++ b = (1 : Int) :: (a ++ b) := by simp
theorem nd_bd {a b : List Int} (ha : ∀ y ∈ a, 0 ≤ y ∧ y < 256) (hb : ∀ y ∈ b, 0 ≤ y ∧ y < 256) : ∀ y ∈ (1 : Int) :: (a ++ b), 0 ≤ y ∧ y < 256 := cons_bd (by decide) (both_bd ha hb)
theorem bys_one {W : World} {g : Nat} {z : Int} {t : TypeId} (hz : 0 ≤ z ∧ z < 256) (hg : W.heap[g]? = some (.cells #[.int .u8 z] t (0, 0))) : Bys W (.slice (some ⟨g, 0, none⟩) [z].length 1) [z] := bys_row1 (l := [z]) hg (by simp) (by intro y hy; rw [List.mem_singleton.1 hy]; exact hz) 1
theorem bys_key {W : World} {g : Nat} {l : List Int} {t : TypeId} (hl : l.length = 32) (hz : ∀ y ∈ l, 0 ≤ y ∧ y < 256) (hg : W.heap[g]? = some (.cells (irow .u8 l) t (0, 0))) : Bys W (.slice (some ⟨g, 0, none⟩) l.length 32) l := bys_row1 hg (by omega) hz 32
set_option maxRecDepth 100000 in
set_option maxHeartbeats 8000000 in
theorem a_Leaf (b : List Int) (w : World) (v : Value) (hS : Sta w) (hK : Kon w) (hB : Bys w v b) (hn : ∀ a l c, v = .slice a l c → a = none → c = 0) (hl : b.length ≤ 140737488353000) : Calls Tryd.prog 12 #[v] w fun e w' => e = .returned (.agg (irow .u8 (lfL b))) ∧ Below w.heap.size w w' := by
  obtain ⟨bo, bc, rfl, _, _, hz⟩ := id hB
  have rp0 := hp1_0 w (.cells (irow .u8 (zr 32)) 24)
  have hw : Below w.heap.size w (w.alloc (.cells (irow .u8 (zr 32)) 24)) := ((Below.refl _ _).alloc (Nat.le_refl _) _)
  go_enter Tryd.func12, Tryd.ntmps12
  iterate 6 go_step
  try rw [zk32]
  generalize (w.alloc (.cells (irow .u8 (zr 32)) 24)) = w0 at *
  go_wp2_with (fail)
  have rg0 := hp2_0 w0 (.cells #[.int .u8 0] 5) (.cells #[.slice (some ⟨w0.heap.size, 0, none⟩) 1 1, .slice bo b.length bc] 22)
  have rg1 := hp2_1 w0 (.cells #[.int .u8 0] 5) (.cells #[.slice (some ⟨w0.heap.size, 0, none⟩) 1 1, .slice bo b.length bc] 22)
  have hb : Below w0.heap.size w0 ((w0.alloc (.cells #[.int .u8 0] 5)).alloc (.cells #[.slice (some ⟨w0.heap.size, 0, none⟩) 1 1, .slice bo b.length bc] 22)) := (((Below.refl _ _).alloc (Nat.le_refl _) _).alloc (by simp) _)
  generalize ((w0.alloc (.cells #[.int .u8 0] 5)).alloc (.cells #[.slice (some ⟨w0.heap.size, 0, none⟩) 1 1, .slice bo b.length bc] 22)) = w1 at *
  have lt_g_0 := lt_of_row rp0
  have sz_g := hw.size
  replace rp0 := keep hb rp0
  replace hw := Below.after hw hb
  clear hb
  generalize w0.heap.size = g at *
  refine (a_concat2 [0] b _ _ (some ⟨g, 0, none⟩) bo 1 bc rg1 (bys_one (by decide) rg0) (by intro e; cases e) (hB.keep hw) (hn _ _ _ rfl) (by simp only [List.length_singleton]; omega) (by simp only [List.length_singleton]; omega)).mono ?_
  rintro e_ w2 ⟨v1, rfl, hO, hb⟩
  replace rp0 := keep hb rp0
  replace rg0 := keep hb rg0
  replace rg1 := keep hb rg1
  replace hw := Below.after hw hb
  clear hb
  obtain ⟨ao1, ac1, e1⟩ := slen_own hO
  subst e1
  go_wp2_with (fail)
  have hz2 := cons_bd (z := 0) (by decide) hz
  refine (a_sum (0 :: b) _ _ (hS.below hw) (hK.below hw) (hO.bys (by simp; omega) hz2) hO.cap (by simp; omega)).mono ?_
  rintro e_ w9 ⟨rfl, hb⟩
  replace rp0 := keep hb rp0
  replace rg0 := keep hb rg0
  replace rg1 := keep hb rg1
  replace hw := Below.after hw hb
  clear hb
  go_wp2_with (first | (refine wpList_load_want rfl 24 _ rfl (w.heap.size) rfl 24 (irow .u8 (zr 32)) (0, 0) _ rp0 Tryd.underlying24 rfl (infok8 _ (zr_len 32)) ?_) | (refine wpList_load_want rfl 5 _ rfl (g) rfl 5 #[.int .u8 0] (0, 0) _ rg0 Tryd.underlying5 rfl  ?_) | (refine wpList_load_want rfl 22 _ rfl (g + 1) rfl 22 #[.slice (some ⟨w0.heap.size, 0, none⟩) 1 1, .slice bo b.length bc] (0, 0) _ rg1 Tryd.underlying22 rfl  ?_) | (refine wpList_store_row rfl 24 _ _ rfl (w.heap.size) (irow .u8 (lfL b)) rfl rfl 24 _ rp0 (infok8 _ (sumL_len _)) (((irow_size _ _).trans (zr_len 32)).trans ((irow_size _ _).trans (sumL_len _)).symm) (irow_one8 _) ?_) | fail)
  exact bodyPost_ret (v := .agg (irow .u8 (lfL b))) (results_cell_row Tryd.results12 _ _ (w.heap.size) _ (irow .u8 (lfL b)) _ _ rfl (setRow_heap _ _ _ _ _ _ rp0) Tryd.underlying24 rfl (infok8 _ (sumL_len _))) rfl ⟨rfl, below_setRow hw (by omega) _⟩
set_option maxRecDepth 100000 in
set_option maxHeartbeats 8000000 in
theorem a_Node (a b : List Int) (ha : a.length = 32) (hB : b.length = 32) (za : ∀ y ∈ a, 0 ≤ y ∧ y < 256) (zb : ∀ y ∈ b, 0 ≤ y ∧ y < 256) (w : World) (hS : Sta w) (hK : Kon w) : Calls Tryd.prog 15 #[.agg (irow .u8 a), .agg (irow .u8 b)] w fun e w' => e = .returned (.agg (irow .u8 (nd sumL a b))) ∧ Below w.heap.size w w' := by
  have rp0 := hp3_0 w (.cells (irow .u8 a) 24) (.cells (irow .u8 b) 24) (.cells (irow .u8 (zr 32)) 24)
  have rp1 := hp3_1 w (.cells (irow .u8 a) 24) (.cells (irow .u8 b) 24) (.cells (irow .u8 (zr 32)) 24)
  have rp2 := hp3_2 w (.cells (irow .u8 a) 24) (.cells (irow .u8 b) 24) (.cells (irow .u8 (zr 32)) 24)
  have hw : Below w.heap.size w (((w.alloc (.cells (irow .u8 a) 24)).alloc (.cells (irow .u8 b) 24)).alloc (.cells (irow .u8 (zr 32)) 24)) := ((((Below.refl _ _).alloc (Nat.le_refl _) _).alloc (by simp) _).alloc (by simp; omega) _)
  go_enter Tryd.func15, Tryd.ntmps15
  iterate 12 go_step
  try rw [zk32]
  generalize (((w.alloc (.cells (irow .u8 a) 24)).alloc (.cells (irow .u8 b) 24)).alloc (.cells (irow .u8 (zr 32)) 24)) = w0 at *
  go_wp2_with (fail)
  have hb : Below w0.heap.size w0 w0.drew := below_drN (Below.refl _ _) 1
  replace rp0 := keep hb rp0
  replace rp1 := keep hb rp1
  replace rp2 := keep hb rp2
  replace hw := Below.after hw hb
  clear hb
  refine wp_region_noPanic ?_
  refine wp_region_held (S := fun _ => True) (by kernel_rfl) ?_
  change wpAnyH _ _ _ _ _ _ _ _ (World.drew _)
  generalize w0.drew = wd1 at *
  refine wpAnyH_take (i := 1) (v := .slice (some ⟨w.heap.size, 0, none⟩) 32 32) rfl (by kernel_rfl) (by kernel_rfl) (by kernel_rfl) (fun _ _ _ h => h) (Or.inl ⟨by rfl, ?y2⟩) (trivial) ?r2
  case y2 =>
    intro w_ hS_
    go_simp
    try with_reducible rfl
  simp only [Act.put, List.getElem_toArray, List.getElem_cons_succ, List.getElem_cons_zero, List.setIfInBounds_toArray, List.set_cons_succ, List.set_cons_zero]
  refine wpAnyH_take (i := 2) (v := .slice (some ⟨w.heap.size + 1, 0, none⟩) 32 32) rfl (by kernel_rfl) (by kernel_rfl) (by kernel_rfl) (fun _ _ _ h => h) (Or.inl ⟨by rfl, ?y3⟩) (trivial) ?r3
  case y3 =>
    intro w_ hS_
    go_simp
    try with_reducible rfl
  simp only [Act.put, List.getElem_toArray, List.getElem_cons_succ, List.getElem_cons_zero, List.setIfInBounds_toArray, List.set_cons_succ, List.set_cons_zero]
  refine eH_one (k := 0) (fuel := 4) (by kernel_rfl) rfl (by kernel_rfl) (fun K_ hK_ => ?_)
  refine e_world_op (.slice (some ⟨wd1.heap.size, 0, none⟩) 1 1) (wd1.alloc (.cells #[.int .u8 1] 5)) (by kernel_rfl) ?_
  have hb : Below wd1.heap.size wd1 (wd1.alloc (.cells #[.int .u8 1] 5)) := (Below.refl _ _).alloc (Nat.le_refl _) _
  have rg4 := hp1_0 wd1 (.cells #[.int .u8 1] 5)
  have lt_g4_0 := lt_of_row rp0
  have lt_g4_1 := lt_of_row rp1
  have lt_g4_2 := lt_of_row rp2
  have sz_g4 := hw.size
  replace rp0 := keep hb rp0
  replace rp1 := keep hb rp1
  replace rp2 := keep hb rp2
  replace hw := Below.after hw hb
  clear hb
  refine hK_ _ _ (trivial) ?_
  simp only [Act.put, List.getElem_toArray, List.getElem_cons_zero, List.setIfInBounds_toArray, List.set_cons_succ, List.set_cons_zero]
  clear hK_
  generalize (wd1.alloc (.cells #[.int .u8 1] 5)) = wq4 at *
  generalize wd1.heap.size = g4 at *
  
  refine eH_one (k := 3) (fuel := 3) (by kernel_rfl) rfl (by kernel_rfl) (fun K_ hK_ => ?_)
  refine e_world_op (.slice (some ⟨wq4.heap.size, 0, none⟩) 3 3) (wq4.alloc (.cells #[.slice (some ⟨g4, 0, none⟩) 1 1, .slice (some ⟨w.heap.size, 0, none⟩) 32 32, .slice (some ⟨w.heap.size + 1, 0, none⟩) 32 32] 22)) (by kernel_rfl) ?_
  have hb : Below wq4.heap.size wq4 (wq4.alloc (.cells #[.slice (some ⟨g4, 0, none⟩) 1 1, .slice (some ⟨w.heap.size, 0, none⟩) 32 32, .slice (some ⟨w.heap.size + 1, 0, none⟩) 32 32] 22)) := (Below.refl _ _).alloc (Nat.le_refl _) _
  have rg5 := hp1_0 wq4 (.cells #[.slice (some ⟨g4, 0, none⟩) 1 1, .slice (some ⟨w.heap.size, 0, none⟩) 32 32, .slice (some ⟨w.heap.size + 1, 0, none⟩) 32 32] 22)
  have lt_g5_0 := lt_of_row rp0
  have lt_g5_1 := lt_of_row rp1
  have lt_g5_2 := lt_of_row rp2
  have lt_g5_3 := lt_of_row rg4
  have sz_g5 := hw.size
  replace rp0 := keep hb rp0
  replace rp1 := keep hb rp1
  replace rp2 := keep hb rp2
  replace rg4 := keep hb rg4
  replace hw := Below.after hw hb
  clear hb
  refine hK_ _ _ (trivial) ?_
  simp only [Act.put, List.getElem_toArray, List.getElem_cons_succ, List.getElem_cons_zero, List.setIfInBounds_toArray, List.set_cons_succ, List.set_cons_zero]
  clear hK_
  generalize (wq4.alloc (.cells #[.slice (some ⟨g4, 0, none⟩) 1 1, .slice (some ⟨w.heap.size, 0, none⟩) 32 32, .slice (some ⟨w.heap.size + 1, 0, none⟩) 32 32] 22)) = wq5 at *
  generalize wq4.heap.size = g5 at *
  refine eH_one (k := 4) (fuel := 2) (by kernel_rfl) rfl (by kernel_rfl) (fun K_ hK_ => ?_)
  refine wp_call_ex (f := 41) (by kernel_rfl) (a_concat3 [1] a b _ g5 (some ⟨g4, 0, none⟩) (some ⟨w.heap.size, 0, none⟩) (some ⟨w.heap.size + 1, 0, none⟩) 1 32 32 (by simp only [ha, hB]; exact rg5) (bys_one (by decide) rg4) (by intro e; cases e) (bys_key ha za rp0) (by intro e; cases e) (bys_key hB zb rp1) (by intro e; cases e) (by simp only [List.length_singleton]; omega) (by simp only [List.length_singleton]; omega)) (fun v_ wq6 hX_ => ?_)
  obtain ⟨hO, hb⟩ := hX_
  replace rp0 := keep hb rp0
  replace rp1 := keep hb rp1
  replace rp2 := keep hb rp2
  replace rg4 := keep hb rg4
  replace rg5 := keep hb rg5
  replace hw := Below.after hw hb
  clear hb
  refine hK_ _ _ (trivial) ?_
  simp only [Act.put, List.getElem_toArray, List.getElem_cons_succ, List.getElem_cons_zero, List.setIfInBounds_toArray, List.set_cons_succ, List.set_cons_zero]
  clear hK_
  rw [nd_eq] at hO
  refine eH_one (k := 5) (fuel := 1) (by kernel_rfl) rfl (by kernel_rfl) (fun K_ hK_ => ?_)
  refine wp_call_ex (f := 21) (by kernel_rfl) (ex1e (a_sum (1 :: (a ++ b)) _ _ (hS.below hw) (hK.below hw) (hO.bys (by simp; omega) (nd_bd za zb)) hO.cap (by simp; omega))) (fun v_ wq7 hX_ => ?_)
  obtain ⟨rfl, hb⟩ := hX_
  replace rp0 := keep hb rp0
  replace rp1 := keep hb rp1
  replace rp2 := keep hb rp2
  replace rg4 := keep hb rg4
  replace rg5 := keep hb rg5
  replace hw := Below.after hw hb
  clear hb
  refine hK_ _ _ (trivial) ?_
  simp only [Act.put, List.getElem_toArray, List.getElem_cons_succ, List.getElem_cons_zero, List.setIfInBounds_toArray, List.set_cons_succ, List.set_cons_zero]
  clear hK_
  refine eH_one (k := 6) (fuel := 0) (by kernel_rfl) rfl (by kernel_rfl) (fun K_ hK_ => ?_)
  refine wp_store_row 24 _ _ rfl (w.heap.size + 1 + 1) (irow .u8 (nd sumL a b)) rfl rfl 24 _ rp2 (infok8 _ (sumL_len _)) (((irow_size _ _).trans (zr_len 32)).trans ((irow_size _ _).trans (sumL_len _)).symm) (irow_one8 _) ?_
  have hN_ := setRow_heap wq7 (w.heap.size + 1 + 1) _ (irow .u8 (nd sumL a b)) _ _ rp2
  replace rp0 := (setRow_other wq7 (w.heap.size + 1 + 1) (w.heap.size) (irow .u8 (nd sumL a b)) (by omega)).trans rp0
  replace rp1 := (setRow_other wq7 (w.heap.size + 1 + 1) (w.heap.size + 1) (irow .u8 (nd sumL a b)) (by omega)).trans rp1
  replace rg4 := (setRow_other wq7 (w.heap.size + 1 + 1) (g4) (irow .u8 (nd sumL a b)) (by omega)).trans rg4
  replace rg5 := (setRow_other wq7 (w.heap.size + 1 + 1) (g5) (irow .u8 (nd sumL a b)) (by omega)).trans rg5
  replace hw := below_setRow hw (show w.heap.size ≤ w.heap.size + 1 + 1 by omega) (irow .u8 (nd sumL a b))
  generalize (wq7.setRow (w.heap.size + 1 + 1) (irow .u8 (nd sumL a b))) = wq8 at *
  clear rp2
  have rp2 := hN_
  clear hN_
  refine hK_ _ _ (trivial) ?_
  simp only [Act.put]
  clear hK_
  refine wpAnyH_done (by kernel_rfl) ?_ _
  refine NoPanic.normal ?_
  go_wp2_with (fail)
  exact bodyPost_ret (v := .agg (irow .u8 (nd sumL a b))) (results_cell_row Tryd.results15 _ _ (w.heap.size + 1 + 1) _ (irow .u8 (nd sumL a b)) _ _ rfl rp2 Tryd.underlying24 rfl (infok8 _ (sumL_len _))) rfl ⟨rfl, hw⟩
end Go.Proofs.YtgfeacnhdlgpoaaDoor
