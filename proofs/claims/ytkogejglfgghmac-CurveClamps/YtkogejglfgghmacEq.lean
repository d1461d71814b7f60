import Derived.WalkKit
import Derived.ChangeKeysEq
import Derived.Laws.StructEq
namespace Go.Proofs.Ytkogejglfgghmac
open Go Go.RowKit

/-! Two arrays of integers, held against each other. -/
section
variable {P : Program}

theorem run_part_int {e : TypeId} {k : IntKind} {i0 : TypeInfo} (w : World) (hu : P.underlying e = some (.int k)) (_hi : P.info? e = some i0) (l : List Int) (i : Nat) (h : i < l.length) :
    (part e (l.map (Value.int k)).toArray i).run P w = .ok (.int k l[i]) w := by
  have hagg : (isAgg e).run P w = .ok false w := by
    unfold isAgg
    rw [Sem.run_bind, run_underlying hu w]
    rfl
  simp [part, Sem.run_bind, hagg, h]

theorem run_eqItems_int {e : TypeId} {k : IntKind} {i0 : TypeInfo} (d : Nat) (w : World) (hu : P.underlying e = some (.int k)) (hi : P.info? e = some i0) (l l' : List Int) : ∀ (is : List Nat), (∀ i ∈ is, i < l.length ∧ i < l'.length) →
    (Op.eqItems (d + 1) e 1 (l.map (Value.int k)).toArray (l'.map (Value.int k)).toArray is).run P w = .ok (is.all fun i => l.getD i 0 == l'.getD i 0) w
  | [], _ => by simp [Op.eqItems]
  | i :: is, h => by
    have h1 := h i (by simp)
    have h2 := run_eqItems_int d w hu hi l l' is (fun j hj => h j (by simp [hj]))
    have e1 : l.getD i 0 = l[i]'h1.1 := by simp [h1.1]
    have e2 : l'.getD i 0 = l'[i]'h1.2 := by simp [h1.2]
    simp only [Op.eqItems, Sem.run_bind, Nat.mul_one, run_part_int w hu hi l i h1.1, run_part_int w hu hi l' i h1.2, Result.andThen_ok, run_equalIn_int w d e k k _ _ hu, List.all_cons, e1, e2]
    cases hb : (l[i]'h1.1 == l'[i]'h1.2)
    · simp
    · simpa using h2

theorem run_equal_ints {t e : TypeId} {k : IntKind} {i0 : TypeInfo} {n : Nat} (w : World) (ht : P.underlying t = some (.array n e)) (hu : P.underlying e = some (.int k)) (hi : P.info? e = some i0) (hc : P.cellsOf e = 1)
    (l l' : List Int) (hl : l.length = n) (hl' : l'.length = n) :
    (Op.equalIn 10000 t (.agg (l.map (Value.int k)).toArray) (.agg (l'.map (Value.int k)).toArray)).run P w = .ok (decide (l = l')) w := by
  rw [run_equalIn_array w 9999 _ _ ht hi, hc, run_eqItems_int 9998 w hu hi l l' (List.range n) (fun i h => by simp at h; omega)]
  congr 1
  rw [Bool.eq_iff_iff]
  simp only [List.all_eq_true, List.mem_range, beq_iff_eq, decide_eq_true_eq]
  constructor
  · intro h
    apply List.ext_getElem (by omega)
    intro i h1 h2
    have := h i (by omega)
    simpa [h1, h2] using this
  · rintro rfl i _
    rfl

end
end Go.Proofs.Ytkogejglfgghmac
