import Derived.Test.YtebgdenfaiinmaaSpu
import Derived.Test.YtebgdenfaiinmaaSpm
namespace Go.Proofs.Ytebgdenfaiinmaa
open Go Go.RowKit Go.Sort Go.ChangeShapes Go.WideShapes Go.Deep

theorem cIntB : Try.prog.cellsOf 3 = 1 := by kernel_rfl
theorem bIntB : Try.prog.bytesOf 3 = 8 := by kernel_rfl
/-- Numbers out of the data. -/
theorem ins_of_trod {H : Type} {enc : TypeId × Value → H} {W : World} {m : Nat} {v : Value} {x : DataW H × List MemPlace} (hf : DataW.trod enc Try.prog W 0 (fun _ => true) true m 64 [v] = some x) (hs : ∀ n ∈ x.1.weights Try.prog 64, n ≤ reachBytes) : ∃ zs : List Int, Ins W v zs := by
  rcases open_ints Try.underlying64 Try.underlying3 cIntB hf with ⟨hcs, hx⟩ | ⟨a, len, cap, zs, hcs, _, hl, hm, hz, hx, hcell, hwz⟩
  · injection hcs with hv _
    subst hv
    exact ⟨[], none, 0, rfl, by decide, fun i hi => by simp at hi⟩
  · injection hcs with hv _
    subst hv
    subst hx
    simp only [if_true] at hz
    have hb := hs (((lits (H := H) .i64 (zs.take len)).length + (lits (H := H) .i64 (zs.drop len)).length) * 8) (by simp [DataW.weights, Try.underlying64, bIntB])
    simp only [lits, List.length_map, List.length_take, List.length_drop, reachBytes] at hb
    have hlen : (zs.take len).length = len := by rw [List.length_take]; omega
    refine ⟨zs.take len, some a, cap, by rw [hlen], by rw [hlen]; omega, fun i hi => ?_⟩
    rw [hlen] at hi
    have hc := hcell i (by omega)
    obtain ⟨bb, off, spot⟩ := a
    have hspot : spot = none := by simpa [Addr.add] using World.cell?_spot (hcell 0 (by omega))
    subst hspot
    rw [addr_add] at hc
    refine ⟨bb, off, rfl, block_lt hc, ?_⟩
    rw [hc, List.getD_eq_getElem?_getD, List.getD_eq_getElem?_getD, List.getElem?_take_of_lt hi]
end Go.Proofs.Ytebgdenfaiinmaa
