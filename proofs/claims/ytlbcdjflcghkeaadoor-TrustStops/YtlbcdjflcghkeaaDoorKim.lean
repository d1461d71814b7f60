import Derived.Test.YtlbcdjflcghkeaaDoorKa
import Derived.Deep.MidRow
import Derived.RegionTactic
namespace Go.Proofs.YtlbcdjflcghkeaaDoor
set_option maxRecDepth 100000
open Go Go.RowKit Go.Sort

/-- Cells written over, from a place on. -/
def ovw : Array Value → Nat → List Value → Array Value
  | cs, _, [] => cs
  | cs, o, v :: r => ovw (cs.setIfInBounds o v) (o + 1) r
theorem world_eq {w v : World} (h : w.heap = v.heap) (h1 : w.tape = v.tape) (h2 : w.drawn = v.drawn) (h3 : w.os = v.os) (h4 : w.output = v.output) : w = v := by
  cases w; cases v; simp_all
theorem setRow_same {w : World} {g : Nat} {cs : Array Value} {t : TypeId} {fr : Nat × Nat} (h : w.heap[g]? = some (.cells cs t fr)) : w.setRow g cs = w := by
  refine world_eq ?_ rfl rfl rfl rfl
  apply Array.ext_getElem?
  intro k
  by_cases hk : k = g
  · subst hk; rw [setRow_heap w k cs cs t fr h, h]
  · rw [setRow_other w g k cs hk]
theorem setRow_setRow {w : World} {g : Nat} {cs : Array Value} {t : TypeId} {fr : Nat × Nat} (h : w.heap[g]? = some (.cells cs t fr)) (a b : Array Value) : (w.setRow g a).setRow g b = w.setRow g b := by
  refine world_eq ?_ rfl rfl rfl rfl
  apply Array.ext_getElem?
  intro k
  by_cases hk : k = g
  · subst hk; rw [setRow_heap _ k a b t fr (setRow_heap w k cs a t fr h), setRow_heap w k cs b t fr h]
  · rw [setRow_other _ g k b hk, setRow_other w g k a hk, setRow_other w g k b hk]
theorem setCells_eq {g : Nat} {t : TypeId} {fr : Nat × Nat} : ∀ (vs : List Value) (o : Nat) (w : World) (cs : Array Value), w.heap[g]? = some (.cells cs t fr) → w.setCells g o vs = w.setRow g (ovw cs o vs)
  | [], _, w, cs, h => (setRow_same h).symm
  | v :: r, o, w, cs, h => by
    have h1 : w.setCell ⟨g, o, none⟩ v = w.setRow g (cs.setIfInBounds o v) := setCell_eq_setRow w g o cs t fr v h
    rw [World.setCells, h1, setCells_eq r (o + 1) _ (cs.setIfInBounds o v) (setRow_heap w g cs _ t fr h), setRow_setRow h]
    rfl
theorem there_row {w : World} {g : Nat} {cs : Array Value} {t : TypeId} (h : w.heap[g]? = some (.cells cs t (0, 0))) {o n : Nat} (hn : o + n ≤ cs.size) : w.there g o n := by
  intro j hj
  refine ⟨?_, ?_⟩
  · rw [cell_of_row w g (o + j) cs t (0, 0) h, Array.getElem?_eq_getElem (by omega)]; rfl
  · simp [World.frozen?, h]
/-- A part of a row read, in an ordered region. -/
theorem wpList_load_part {P : Program} {ops : Array Oper} {rest : List Oper} {o : Oper} {a : Act} {w : World} {Q : Exit → Act → World → Prop} (hw : Region.wanted o (yielded ops a.tmps) = true) (ty : TypeId) (x : Operand) (ho : o.op = .load ty x)
    (g off : Nat) (hx : a.eval x = .pointer (some ⟨g, off, none⟩)) (t : TypeId) (cs : Array Value) (fr : Nat × Nat) (part : Array Value) (d : TypeDesc) (hg : w.heap[g]? = some (.cells cs t fr)) (hp : cs.extract off (off + part.size) = part)
    (hu : P.underlying ty = some d) (hd : d.isRow = true) (hi : (P.info? ty).map (·.size) = some part.size)
    (h : wpList P ops Q rest (a.put o.dst (.agg part)) w) : wpList P ops Q (o :: rest) a w := by
  refine BigFrame.wpList_want hw fun _ hK => ?_
  have hr := World.rangeAt_of_block hg off part.size
  rw [hp] at hr
  exact wp_load_mid ty x ho g off hx part.toList d hr hu hd (by simpa using hi) (hK _ _ (by simpa using h))
/-- The same in a drawn region. -/
theorem wpQuiet_load_part {P : Program} {C : World → Prop} {ops : Array Oper} {Q : Act → Prop} {a : Act} {o : Oper} {rest : List Oper} (hw : Region.wanted o (yielded ops a.tmps) = true) (ty : TypeId) (x : Operand) (ho : o.op = .load ty x)
    (g off : Nat) (hx : a.eval x = .pointer (some ⟨g, off, none⟩)) (t : TypeId) (cs : Array Value) (fr : Nat × Nat) (part : Array Value) (d : TypeDesc) (hg : ∀ w, C w → w.heap[g]? = some (.cells cs t fr)) (hp : cs.extract off (off + part.size) = part)
    (hu : P.underlying ty = some d) (hd : d.isRow = true) (hi : (P.info? ty).map (·.size) = some part.size)
    (h : wpQuiet P ops C Q rest (a.put o.dst (.agg part))) : wpQuiet P ops C Q (o :: rest) a := by
  refine BigFrame.wpQuiet_want hw fun K hK => ⟨.agg part, fun w hw => ?_, hK _ h⟩
  have hr := World.rangeAt_of_block (hg w hw) off part.size
  rw [hp] at hr
  have hl := run_loadVar_mid (P := P) w g off ty part.toList d hr hu hd (by simpa using hi)
  unfold Oper.quietAt execOp
  simp only [ho, hx, Instr.loadAt, Instr.sureAddr, Sem.run_bind, Sem.run_pure, Result.andThen_ok, hl]
  exact ⟨by simp, rfl⟩
/-- A part of a row stored, in an ordered region. -/
theorem wpList_store_part {P : Program} {ops : Array Oper} {rest : List Oper} {o : Oper} {a : Act} {w : World} {Q : Exit → Act → World → Prop} (hgd : o.guard = none) (ty : TypeId) (x y : Operand) (ho : o.op = .store ty x y)
    (g off : Nat) (cells : Array Value) (hx : a.eval x = .pointer (some ⟨g, off, none⟩)) (hy : a.eval y = .agg cells)
    (t : TypeId) (old new : Array Value) (hg : w.heap[g]? = some (.cells old t (0, 0))) (hle : off + cells.size ≤ old.size) (hnew : ovw old off cells.toList = new) (hi : (P.info? ty).map (·.size) = some cells.size)
    (h1 : cells.all (·.oneCell') = true)
    (h : wpList P ops Q rest (a.put o.dst undef) (w.setRow g new)) : wpList P ops Q (o :: rest) a w := by
  refine wpList_store_mid hgd ty x y ho g off cells hx hy (there_row hg hle) hi h1 ?_
  rw [setCells_eq cells.toList off w old hg, hnew]
  exact h
/-- A value put together of its parts, in a drawn region. -/
theorem wpQuiet_build {P : Program} {C : World → Prop} {ops : Array Oper} {Q : Act → Prop} {a : Act} {o : Oper} {rest : List Oper} (hw : Region.wanted o (yielded ops a.tmps) = true) (t : TypeId) (parts : Array (Nat × Operand)) (ho : o.op = .build t parts)
    (vals : List (Nat × Value)) (hv : parts.toList.map (fun (i, x) => (i, a.eval x)) = vals) (cells : Array Value) (hb : P.built t vals = some cells)
    (h : wpQuiet P ops C Q rest (a.put o.dst (.agg cells))) : wpQuiet P ops C Q (o :: rest) a := by
  rw [← Array.toList_map] at hv
  subst hv
  refine BigFrame.wpQuiet_want hw fun K hK => ⟨.agg cells, fun w hw => ?_, hK _ h⟩
  unfold Oper.quietAt execOp
  simp only [ho, Sem.run_bind, run_build w t _ cells hb, Result.andThen_ok]
  exact ⟨rfl, rfl⟩
theorem wpList_build_as {P : Program} {ops : Array Oper} {rest : List Oper} {o : Oper} {a : Act} {w : World} {Q : Exit → Act → World → Prop} (hg : o.guard = none) (t : TypeId) (parts : Array (Nat × Operand)) (ho : o.op = .build t parts)
    (vals : List (Nat × Value)) (hv : parts.toList.map (fun (i, x) => (i, a.eval x)) = vals) (cells : Array Value) (hb : P.built t vals = some cells)
    (h : wpList P ops Q rest (a.put o.dst (.agg cells)) w) : wpList P ops Q (o :: rest) a w := by
  rw [← Array.toList_map] at hv
  subst hv
  refine wpList_build hg t parts ho (by rw [hb]; rfl) ?_
  rw [hb]
  exact h
theorem five {r : Array Value} (h : r.size = 5) : ∃ a b c d e, r = #[a, b, c, d, e] := by
  obtain ⟨l⟩ := r
  match l, h with
  | [a, b, c, d, e], _ => exact ⟨a, b, c, d, e, rfl⟩
theorem sixteen {r : Array Value} (h : r.size = 16) : ∃ a b c d e f g i j k l m n o p q, r = #[a, b, c, d, e, f, g, i, j, k, l, m, n, o, p, q] := by
  obtain ⟨l⟩ := r
  match l, h with
  | [a, b, c, d, e, f, g, i, j, k, l, m, n, o, p, q], _ => exact ⟨a, b, c, d, e, f, g, i, j, k, l, m, n, o, p, q, rfl⟩
/-- Four rows in one. -/
def r4 (a b c d : Array Value) : Array Value := (a.toList ++ (b.toList ++ (c.toList ++ d.toList))).toArray
theorem r4_size (a b c d : Array Value) : (r4 a b c d).size = a.size + (b.size + (c.size + d.size)) := by simp [r4]
theorem r4_one {a b c d : Array Value} (ha : a.all (·.oneCell') = true) (hb : b.all (·.oneCell') = true) (hc : c.all (·.oneCell') = true) (hd : d.all (·.oneCell') = true) : (r4 a b c d).all (·.oneCell') = true := by
  simp only [Array.all_eq_true_iff_forall_mem] at *
  intro v hv
  simp only [r4, List.mem_toArray, List.mem_append, Array.mem_toList_iff] at hv
  rcases hv with h | h | h | h
  · exact ha v h
  · exact hb v h
  · exact hc v h
  · exact hd v h
theorem r4_get0 {a b c d : Array Value} {o : Nat} (h : o = 0) : (r4 a b c d).extract o (o + a.size) = a := by
  subst h
  apply Array.ext'
  simp [r4]
theorem drop_two (a b c : List Value) : (a ++ (b ++ c)).drop (a.length + b.length) = c := by
  rw [← List.append_assoc, ← List.length_append, List.drop_left]
theorem r4_get1 {a b c d : Array Value} {o : Nat} (h : o = a.size) : (r4 a b c d).extract o (o + b.size) = b := by
  subst h
  apply Array.ext'
  simp [r4]
theorem r4_get2 {a b c d : Array Value} {o : Nat} (h : o = a.size + b.size) : (r4 a b c d).extract o (o + c.size) = c := by
  subst h
  apply Array.ext'
  have := drop_two a.toList b.toList (c.toList ++ d.toList)
  simp [r4] at this ⊢
  rw [this]
  simp
theorem r4_get3 {a b c d : Array Value} {o : Nat} (h : o = a.size + b.size + c.size) : (r4 a b c d).extract o (o + d.size) = d := by
  subst h
  apply Array.ext'
  have := drop_two (a.toList ++ b.toList) c.toList d.toList
  simp [r4] at this ⊢
  rw [this]
  exact List.take_of_length_le (by simp)
end Go.Proofs.YtlbcdjflcghkeaaDoor

namespace Go.Proofs.YtlbcdjflcghkeaaDoor
set_option maxRecDepth 100000
open Go Go.RowKit Go.Sort
theorem cut_at2 {P : Program} {md : Region.Mode} {ops : Array Oper} {Q : Exit → Act → World → Prop} {fuel : Nat} {listed : Array Bool} {a : Act} {w : World} (f2 : Nat) (l2 : Array Bool) (S : Nat → World → Prop) (a2 : Nat → Value → Act)
    (h1 : (∀ g v W, S g W → wpAny P md ops Q f2 l2 (a2 g v) W) → wpAny P md ops Q fuel listed a w) (h2 : ∀ g v W, S g W → wpAny P md ops Q f2 l2 (a2 g v) W) : wpAny P md ops Q fuel listed a w := h1 h2
/-- An operation that yields a value and a world. -/
theorem wp_world_op {P : Program} {o : Oper} {a : Act} {w : World} {K : Act → World → Prop} {Q : Exit → Act → World → Prop} (v : Value) (w' : World) (hx : (execOp a.eval o).run P w = .ok (.value v) w') (h : K (a.put o.dst v) w') : o.wp P a w K Q := by
  unfold Oper.wp
  rw [hx, Oper.upon_value]
  exact h
end Go.Proofs.YtlbcdjflcghkeaaDoor
