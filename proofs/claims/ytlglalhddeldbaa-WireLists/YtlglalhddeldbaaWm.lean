import Derived.Test.YtlglalhddeldbaaWj
import Derived.Test.YtlglalhddeldbaaWh
import Derived.Deep.Slices
namespace Go.Proofs.Ytlglalhddeldbaa
open Go Go.ChangeShapes Go.WideShapes Go.ChangeAt Go.RowKit Go.Deep

/-! Items out of the data. -/
theorem bSl24 : Try.prog.bytesOf 22 = 24 := by kernel_rfl
theorem weightsAll_in {H : Type} {P : Program} {e : TypeId} : ∀ {l : List (DataW H)} {d : DataW H}, d ∈ l → ∀ n ∈ d.weights P e, n ∈ DataW.weightsAll P e l
  | x :: r, d, h, n, hn => by
    rw [DataW.weightsAll, List.mem_append]
    rcases List.mem_cons.1 h with rfl | h
    · exact .inl hn
    · exact .inr (weightsAll_in h n hn)
theorem range_gp (PS : Nat → List B) (n i : Nat) (h : i < n) : gp ((List.range n).map PS) i = PS i := by
  rw [gp, List.getD_eq_getElem?_getD, List.getElem?_map, List.getElem?_range h]; rfl
theorem pcB_of_trod {H : Type} {enc : TypeId × Value → H} {W : World} {m : Nat} {v : Value} {x : DataW H × List MemPlace} (hf : DataW.trod enc Try.prog W 0 (fun _ => true) true m 36 [v] = some x) (hs : ∀ n ∈ x.1.weights Try.prog 36, n ≤ reachBytes) : ∃ ps : List (List B), PcB W v ps := by
  rcases open_slice1 Try.underlying36 cSl6 hf with ⟨hcs, hx⟩ | ⟨a, len, cap, m, n, V, D, Pl, hcs, _, hl, hm, hmm, hx, hel⟩
  · injection hcs with hv _
    subst hv
    exact ⟨[], ⟨none, 0, rfl, by decide, fun _ => rfl, fun i hi => by simp at hi⟩⟩
  · injection hcs with hv _
    subst hv
    subst hx
    simp only [if_true] at hmm
    subst hmm
    have hb := hs ((((List.range len).map D).length + ((List.range (m - len)).map fun j => D (len + j)).length) * 24) (by simp [DataW.weights, Try.underlying36, bSl24])
    simp only [List.length_map, List.length_range, reachBytes] at hb
    obtain ⟨PS, hPS⟩ := choose_lt (α := List B) (p := fun i p => BysC W (V i) p) (n := len) (fun i hi => by
      obtain ⟨v', d, e, h⟩ := bysC_of_trod (hel i (by omega)).2 (fun n hn => hs n (by
        simp only [DataW.weights, Try.underlying36]
        exact List.mem_cons_of_mem _ (List.mem_append_left _ (weightsAll_in (List.mem_map.2 ⟨i, List.mem_range.2 hi, rfl⟩) n hn))))
      have e' : V i = v' := by simpa using e
      subst e'
      exact ⟨d, h⟩)
    refine ⟨(List.range len).map PS, ⟨some a, _, by simp; rfl, by simp; omega, (fun e => by cases e), fun i hi => ?_⟩⟩
    have hi' : i < len := by simpa using hi
    have hc := (hel i (by omega)).1
    obtain ⟨bb, off, spot⟩ := a
    have hspot : spot = none := by simpa [Addr.add] using World.cell?_spot (hel 0 (by omega)).1
    subst hspot
    rw [addr_add] at hc
    rw [range_gp PS len i hi']
    exact ⟨bb, off, V i, rfl, block_lt6 hc, hc, (hPS i hi').1, (hPS i hi').2.1⟩
end Go.Proofs.Ytlglalhddeldbaa
