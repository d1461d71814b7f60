import Derived.Test.YtlbcdjflcghkeaaDoorProg
import Derived.WalkKit
import Derived.Lib.QuietBelow
import Derived.BigQuiet
import Derived.OwnWalk
import Derived.Test.YtlbcdjflcghkeaaDoorKa
import Derived.Test.YtlbcdjflcghkeaaDoorAhc
namespace Go.Proofs.YtlbcdjflcghkeaaDoor
set_option maxRecDepth 100000
open Go Go.RowKit Go.Sort
attribute [local go_sem] setCell_drewN alloc_drewN
/-- A list of strings of one's own. -/
def OwnS (W : World) (b : Nat) (v : Value) (l : List ByteArray) : Prop := W.ownsRow b 9 1 v l.length (l.map Value.string)
theorem OwnS.move {W W' : World} {b : Nat} {v : Value} {l : List ByteArray} (h : OwnS W b v l) (hm : ∀ g o, v.ownBlock = some g → W.heap[g]? = some o → W'.heap[g]? = some o) : OwnS W' b v l := by
  obtain ⟨h1, h2 | ⟨g, cap, cur, e, hbg, hg, h3⟩⟩ := h
  · exact ⟨h1, .inl h2⟩
  · exact ⟨h1, .inr ⟨g, cap, cur, e, hbg, hm g _ (by rw [e]; rfl) hg, h3⟩⟩
theorem OwnS.keep {W W' : World} {b : Nat} {v : Value} {l : List ByteArray} (h : OwnS W b v l) (hb : Below W.heap.size W W') : OwnS W' b v l := h.move (fun _ _ _ hg => Go.Proofs.YtlbcdjflcghkeaaDoor.keep hb hg)
theorem OwnS.lt {W : World} {b : Nat} {v : Value} {l : List ByteArray} (h : OwnS W b v l) : ∀ k, v.ownBlock = some k → b ≤ k ∧ k < W.heap.size := World.ownsRow.lt h
theorem OwnS.down {W : World} {b c : Nat} {v : Value} {l : List ByteArray} (h : OwnS W b v l) (hc : c ≤ b) : OwnS W c v l := by
  obtain ⟨h1, h2 | ⟨g, cap, cur, e1, hb, h3⟩⟩ := h
  · exact ⟨h1, .inl h2⟩
  · exact ⟨h1, .inr ⟨g, cap, cur, e1, Nat.le_trans hc hb, h3⟩⟩
theorem OwnS.form {W : World} {b : Nat} {v : Value} {l : List ByteArray} (h : OwnS W b v l) : ∃ ao cap, v = .slice ao l.length cap := by
  obtain ⟨_, ⟨rfl, h0⟩ | ⟨g, cap, cur, rfl, _⟩⟩ := h
  · exact ⟨none, 0, by rw [h0]⟩
  · exact ⟨_, _, rfl⟩
/-- Its cells, where it is not empty. -/
theorem OwnS.cells {W : World} {b : Nat} {v : Value} {l : List ByteArray} (h : OwnS W b v l) (hp : 0 < l.length) : ∃ g cap, v = .slice (some ⟨g, 0, none⟩) l.length cap ∧ l.length ≤ cap ∧ b ≤ g ∧ g < W.heap.size ∧ ∀ (j : Nat) x, l[j]? = some x → W.cell? ⟨g, 0 + j, none⟩ = some (.string x) := by
  obtain ⟨_, ⟨rfl, h0⟩ | ⟨g, cap, cur, rfl, hb, hg, hnc, _, _, ht⟩⟩ := h
  · omega
  · refine ⟨g, cap, rfl, hnc, hb, lt_of_row hg, fun j x hj => ?_⟩
    have hjl : j < l.length := (List.getElem?_eq_some_iff.1 hj).1
    rw [cell_of_row _ _ _ _ _ _ hg, Nat.zero_add]
    have e : (cur.toList.take (l.length * 1))[j]? = (l.map Value.string)[j]? := by rw [ht]
    rw [Nat.mul_one, List.getElem?_take_of_lt hjl] at e
    simpa [hj] using e
theorem infS : ∃ i, Tryd.prog.info? 9 = some i ∧ i.zero = some (.string ⟨#[]⟩) ∧ i.size = 1 ∧ i.bytes = 16 := ⟨_, rfl, rfl, rfl, rfl⟩
theorem strs_one (l : List ByteArray) : ∀ v ∈ l.map Value.string, v.oneCell' = true := by
  intro v hv
  obtain ⟨x, _, rfl⟩ := List.mem_map.1 hv
  rfl
theorem wp_append_S {w : World} {o : Oper} {a : Act} {K : Act → World → Prop} {Q : Exit → Act → World → Prop} (s x : Operand) (ho : o.op = .call { callee := .builtin .append, args := #[s, x], argTypes := #[69, 69] })
    (base : Nat) (v : Value) (l : List ByteArray) (hs : a.eval s = v) (hI : OwnS w base v l) (ad : Addr) (key : List ByteArray) (c : Nat) (hx : a.eval x = .slice (some ad) key.length c) (hn : ∀ j u, (key.map Value.string)[j]? = some u → w.cell? (ad.add j) = some u) (hlen : l.length + key.length ≤ 1000000) (hbase : base ≤ w.heap.size)
    (h : ∀ v' w', OwnS w' base v' (l ++ key) → w.grownBy w' v.ownBlock → K (a.put o.dst v') w') : o.wp Tryd.prog a w K Q := by
  obtain ⟨i0, hi, hz0, hz1, hz2⟩ := infS
  obtain ⟨v', w', hr, h2, h3, h4⟩ := run_append_own (P := Tryd.prog) w base 69 o.type 9 i0 (.string ⟨#[]⟩) 1 16 Tryd.underlying69 hi hz0 hz1 hz2 rfl (by decide) v l.length (l.map Value.string) hI ad key.length c (key.map Value.string) (by simp) hn (strs_one _) (by unfold maxLen; omega) (by omega) hbase
  unfold Oper.wp execOp
  simp only [ho, resolve, invoke, builtin, Sem.run_bind, Sem.run_pure, Result.andThen_ok, List.map_toArray, List.map_cons, List.map_nil, hs, hx, hr]
  exact h v' w' (by unfold OwnS; rw [List.length_append, List.map_append]; exact h2) h3
theorem wpList_append_S {w : World} {ops : Array Oper} {rest : List Oper} {o : Oper} {a : Act} {Q : Exit → Act → World → Prop} (hgd : o.guard = none) (s x : Operand) (ho : o.op = .call { callee := .builtin .append, args := #[s, x], argTypes := #[69, 69] })
    (base : Nat) (v : Value) (l : List ByteArray) (hs : a.eval s = v) (hI : OwnS w base v l) (ad : Addr) (key : List ByteArray) (c : Nat) (hx : a.eval x = .slice (some ad) key.length c) (hn : ∀ j u, (key.map Value.string)[j]? = some u → w.cell? (ad.add j) = some u) (hlen : l.length + key.length ≤ 1000000) (hbase : base ≤ w.heap.size)
    (h : ∀ v' w', OwnS w' base v' (l ++ key) → w.grownBy w' v.ownBlock → wpList Tryd.prog ops Q rest (a.put o.dst v') w') : wpList Tryd.prog ops Q (o :: rest) a w :=
  wpList_plain hgd fun _ hK => wp_append_S s x ho base v l hs hI ad key c hx hn hlen hbase (fun v' w' h1 h2 => hK _ _ (h v' w' h1 h2))
end Go.Proofs.YtlbcdjflcghkeaaDoor
