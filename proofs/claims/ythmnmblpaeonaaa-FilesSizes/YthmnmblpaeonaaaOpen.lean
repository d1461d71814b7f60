import Derived.ProofKit
import Derived.OpenShut
namespace Go.Proofs.Ythmnmblpaeonaaa
open Go Go.ChangeShapes Go.WideShapes Go.ChangeAt Go.RowKit

/-! An array of integers that comes in by value. -/
section
variable {P : Program} {H : Type} {enc : TypeId × Value → H} {w : World}

theorem okWide_array {r : Reach} {base : Nat} {t e : TypeId} {n : Nat} {v : Value} (ht : P.underlying t = some (.array n e)) (h : Value.okWide P w r base t v) : ∃ cs : Array Value, v = .agg cs ∧ cs.size = P.cellsOf t := by
  simp only [Value.okWide, ht] at h
  obtain ⟨cs, h1, h2, _⟩ := h
  exact ⟨cs, h1, h2⟩

theorem ints_of : ∀ (cs : List Value) (k : IntKind) (_ : ∀ i (hi : i < cs.length), ∃ a : Int, cs[i] = .int k a ∧ (Lit.int k a).wf = true), ∃ l : List Int, cs = l.map (Value.int k) ∧ ∀ x ∈ l, (Lit.int k x).wf = true
  | [], _, _ => ⟨[], rfl, by simp⟩
  | c :: cs, k, h => by
    obtain ⟨a, ha, wa⟩ := h 0 (by simp)
    obtain ⟨l, hl, wl⟩ := ints_of cs k (fun i hi => by have h1 := h (i + 1) (Nat.succ_lt_succ hi); simp only [List.getElem_cons_succ] at h1; exact h1)
    refine ⟨a :: l, by simp at ha; simp [ha, hl], ?_⟩
    intro x hx
    rcases List.mem_cons.1 hx with rfl | hx
    · exact wa
    · exact wl x hx

theorem open_array {r : Reach} {b0 base : Nat} {spare : TypeId → Bool} {held : Bool} {t e : TypeId} {n : Nat} {k : IntKind} {v : Value} {d : DataW H} {p : List MemPlace} (ht : P.underlying t = some (.array n e)) (he : P.underlying e = some (.int k)) (hce : P.cellsOf e = 1) (hct : P.cellsOf t = n)
    (hv : Value.okWide P w r b0 t v) (h : DataW.Trod enc P w base spare held t v d p) :
    ∃ l : List Int, l.length = n ∧ v = .agg (l.map (Value.int k)).toArray ∧ ∀ x ∈ l, (Lit.int k x).wf = true := by
  obtain ⟨cs, rfl, hs⟩ := okWide_array ht hv
  obtain ⟨fuel, hf⟩ := h
  obtain ⟨xs, m, _, _, hl, hx, hi⟩ := DataW.trod_array ht hf
  obtain ⟨l, hl', wl⟩ := ints_of cs.toList k (fun i hi' => by
    have hin : i < n := by simp at hi'; omega
    have h1 := hi i hin
    rw [hce] at h1
    have hx' : xs[i]? = some xs[i] := List.getElem?_eq_getElem (by omega)
    rw [hx'] at h1
    obtain ⟨a, e0, _, wa⟩ := DataW.trod_int he h1
    refine ⟨a, ?_, wa⟩
    simp only [Value.cells, Nat.mul_one] at e0
    rw [List.drop_eq_getElem_cons hi'] at e0
    simpa using e0)
  refine ⟨l, ?_, ?_, wl⟩
  · have : cs.toList.length = l.length := by rw [hl']; simp
    simp at this
    omega
  · congr 1
    rw [← hl']

theorem u8_of_wf {x : Int} (h : (Lit.int .u8 x).wf = true) : 0 ≤ x ∧ x < 256 := by
  have := bounds_u8 h
  omega

end

theorem list32 : ∀ (l : List Int), l.length = 32 → ∃ b0 b1 b2 b3 b4 b5 b6 b7 b8 b9 b10 b11 b12 b13 b14 b15 b16 b17 b18 b19 b20 b21 b22 b23 b24 b25 b26 b27 b28 b29 b30 b31 : Int, l = [b0, b1, b2, b3, b4, b5, b6, b7, b8, b9, b10, b11, b12, b13, b14, b15, b16, b17, b18, b19, b20, b21, b22, b23, b24, b25, b26, b27, b28, b29, b30, b31]
  | [b0, b1, b2, b3, b4, b5, b6, b7, b8, b9, b10, b11, b12, b13, b14, b15, b16, b17, b18, b19, b20, b21, b22, b23, b24, b25, b26, b27, b28, b29, b30, b31], _ => ⟨b0, b1, b2, b3, b4, b5, b6, b7, b8, b9, b10, b11, b12, b13, b14, b15, b16, b17, b18, b19, b20, b21, b22, b23, b24, b25, b26, b27, b28, b29, b30, b31, rfl⟩
end Go.Proofs.Ythmnmblpaeonaaa
