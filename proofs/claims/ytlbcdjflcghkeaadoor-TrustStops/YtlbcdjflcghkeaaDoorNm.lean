import Derived.Test.YtlbcdjflcghkeaaDoorProg
import Derived.WalkKit
import Derived.WalkSpells
import Derived.WalkLawsBesides
import Derived.Lib.QuietBelow
import Derived.BigQuiet
import Derived.Test.YtlbcdjflcghkeaaDoorKa
import Derived.Test.YtlbcdjflcghkeaaDoorSgn
import Derived.Deep.RegionLaw
import Derived.Deep.RegionHeld3
namespace Go.Proofs.YtlbcdjflcghkeaaDoor
set_option maxRecDepth 100000
open Go Go.RowKit Go.Sort
attribute [local go_sem] setCell_drewN alloc_drewN

/-- A call as one step of a region that draws, by a contract that names what it answers only behind it. -/
theorem step_call {P : Program} {ops : Array Oper} {o : Oper} {a : Act} {w : World} {K : Act → World → Prop} {Q : Exit → Act → World → Prop} {E : Prop} (f : FuncId) (args : Array Value) {R : Value → World → Prop}
    (hg : o.guard = none) (hx : (execOp a.eval o).run P w = .ok (.enter f args) w) (c : Calls P f args w fun e w' => ∃ v, e = .returned v ∧ R v w') (h : ∀ v w', R v w' → K (a.put o.dst v) w') :
    if Region.wanted o (yielded ops a.tmps) = true then Oper.wp P o a w K Q else E := by
  have hw : Region.wanted o (yielded ops a.tmps) = true := by simp [Region.wanted, hg]
  rw [if_pos hw]
  unfold Oper.wp
  rw [hx, Oper.upon_enter]
  exact c.mono fun e w' ⟨v, he, hb⟩ => by subst he; exact h v w' hb
/-- Bytes, and nil has no room. -/
def NB (W : World) (v : Value) (bs : List Int) : Prop := Bys W v bs ∧ (∀ a l c, v = .slice a l c → a = none → c = 0)
theorem NB.keep {W W' : World} {v : Value} {bs : List Int} (h : NB W v bs) (hb : Below W.heap.size W W') : NB W' v bs := ⟨h.1.keep hb, h.2⟩
theorem BysM.nb {W : World} {v : Value} {bs : List Int} (h : BysM W v bs) : NB W v bs := ⟨h.1, h.2.2⟩
theorem NB.m {W : World} {v : Value} {bs : List Int} (h : NB W v bs) (hl : bs.length ≤ 211106232532992) : BysM W v bs := ⟨h.1, hl, h.2⟩
theorem NB.of_row {W : World} {g : Nat} {l : List Int} {t : TypeId} (hg : W.heap[g]? = some (.cells (irow .u8 l) t (0, 0))) (hl : l.length ≤ 9223372036854775807) (hz : ∀ z ∈ l, 0 ≤ z ∧ z < 256) (n cap : Nat) (hn : l.length = n) : NB W (.slice (some ⟨g, 0, none⟩) n cap) l := ⟨by rw [← hn]; exact Bys.of_row hg hl hz cap, fun a _ _ h ha => by cases h; cases ha⟩
theorem NB.of_own {W : World} {b n : Nat} {v : Value} {l : List Int} (h : W.ownsRow b 5 1 v n (l.map (Value.int .u8))) (hl : l.length ≤ 9223372036854775807) (hz : ∀ z ∈ l, 0 ≤ z ∧ z < 256) : NB W v l := ⟨Bys.of_own h hl hz, own_nil h⟩
theorem nb_nil (W : World) : NB W (.slice none 0 0) [] := ⟨bys_nil W, fun a l c h _ => by cases h; rfl⟩
theorem NB.form {W : World} {v : Value} {bs : List Int} (h : NB W v bs) : ∃ u uc, v = .slice u bs.length uc ∧ (u = none → uc = 0) := by
  obtain ⟨⟨u, uc, rfl, _⟩, hn⟩ := h
  exact ⟨u, uc, rfl, hn _ _ _ rfl⟩
/-- A row of lists of bytes. -/
theorem Pcs.of_row {W : World} {g : Nat} {t : TypeId} {vs : List Value} {ps : List (List Int)} (hg : W.heap[g]? = some (.cells vs.toArray t (0, 0))) (hl : vs.length = ps.length) (hs : ps.length ≤ 9223372036854775807) (h : ∀ i v, vs[i]? = some v → NB W v (ps.getD i [])) (n : Nat) (hn : ps.length = n) : Pcs W (.slice (some ⟨g, 0, none⟩) n n) ps := by
  subst hn
  refine ⟨_, _, rfl, hs, fun i hi => ?_⟩
  have hv : vs[i]? = some vs[i] := List.getElem?_eq_getElem (by omega)
  have hb := h i _ hv
  obtain ⟨u, uc, e, hu⟩ := hb.form
  refine ⟨g, 0, u, uc, rfl, lt_of_row hg, ?_, by rw [← e]; exact hb.1, hu⟩
  rw [Nat.zero_add, cell_of hg (by rw [List.getElem?_toArray]; exact hv), e]
theorem Pcs.two {W : World} {g : Nat} {t : TypeId} {v0 v1 : Value} {a b : List Int} (hg : W.heap[g]? = some (.cells #[v0, v1] t (0, 0))) (h0 : NB W v0 a) (h1 : NB W v1 b) : Pcs W (.slice (some ⟨g, 0, none⟩) 2 2) [a, b] :=
  Pcs.of_row (vs := [v0, v1]) hg rfl (by simp) (fun i v hv => by
    match i, hv with
    | 0, hv => cases hv; exact h0
    | 1, hv => cases hv; exact h1
    | (k + 2), hv => simp at hv) 2 rfl
theorem Pcs.three {W : World} {g : Nat} {t : TypeId} {v0 v1 v2 : Value} {a b c : List Int} (hg : W.heap[g]? = some (.cells #[v0, v1, v2] t (0, 0))) (h0 : NB W v0 a) (h1 : NB W v1 b) (h2 : NB W v2 c) : Pcs W (.slice (some ⟨g, 0, none⟩) 3 3) [a, b, c] :=
  Pcs.of_row (vs := [v0, v1, v2]) hg rfl (by simp) (fun i v hv => by
    match i, hv with
    | 0, hv => cases hv; exact h0
    | 1, hv => cases hv; exact h1
    | 2, hv => cases hv; exact h2
    | (k + 3), hv => simp at hv) 3 rfl
theorem Pcs.one {W : World} {g : Nat} {t : TypeId} {v0 : Value} {a : List Int} (hg : W.heap[g]? = some (.cells #[v0] t (0, 0))) (h0 : NB W v0 a) : Pcs W (.slice (some ⟨g, 0, none⟩) 1 1) [a] :=
  Pcs.of_row (vs := [v0]) hg rfl (by simp) (fun i v hv => by
    match i, hv with
    | 0, hv => cases hv; exact h0
    | (k + 1), hv => simp at hv) 1 rfl
theorem slice_k (g : Nat) (W : World) : (Instr.sliceAt 23 (.pointer (some ⟨g, 0, none⟩)) none none none).run Tryd.prog W = .ok (.slice (some ⟨g, 0, none⟩) 32 32) W := by kernel_rfl
theorem storeK {W : World} {g : Nat} {old l : List Int} {t : TypeId} (hg : W.heap[g]? = some (.cells (irow .u8 old) t (0, 0))) (ho : old.length = 32) (hl : l.length = 32) : (storeCells ⟨g, 0, none⟩ (irow .u8 l).toList).run Tryd.prog W = .ok () (W.setRow g (irow .u8 l)) := by
  have h := run_storeCells_from (P := Tryd.prog) g t (irow .u8 l).toList 0 (irow .u8 old) W hg (by rw [Array.length_toList, irow_size, irow_size]; omega) (fun v hv => (Array.all_eq_true_iff_forall_mem.1 (irow_one .u8 l)) v (by simpa using hv))
  rw [h, List.take_zero, List.nil_append, Array.toArray_toList]
end Go.Proofs.YtlbcdjflcghkeaaDoor
