import Derived.Test.YtnbkdlfkacbfjaaWb
import Derived.Test.YtnbkdlfkacbfjaaOpen
import Derived.WalkKit
import Derived.ProofKit
import Derived.OpenShut
import Derived.ChangeSlices
import Derived.ChangeArms
import Derived.SizedLaws
namespace Go.Proofs.Ytnbkdlfkacbfjaa
open Go Go.ChangeShapes Go.WideShapes Go.ChangeAt Go.RowKit

theorem cSl6 : Try.prog.cellsOf 22 = 1 := by kernel_rfl
theorem cU86 : Try.prog.cellsOf 5 = 1 := by kernel_rfl
theorem bU86 : Try.prog.bytesOf 5 = 1 := by kernel_rfl
theorem block_lt6 {w : World} {b o : Nat} {v : Value} (h : w.cell? ⟨b, o, none⟩ = some v) : b < w.heap.size := by
  rcases Nat.lt_or_ge b w.heap.size with q | q
  · exact q
  · simp [World.cell?, Array.getElem?_eq_none q] at h
/-- Bytes handed in: and their room. -/
def BysC (W : World) (v : Value) (d : List B) : Prop := BysB W v d ∧ d.length ≤ 140737488351232 ∧ ∀ a l c, v = .slice a l c → l ≤ c
theorem bysC_of_trod {H : Type} {enc : TypeId × Value → H} {W : World} {m : Nat} {cs : List Value} {x : DataW H × List MemPlace} (hf : DataW.trod enc Try.prog W 0 (fun _ => true) true m 22 cs = some x) (hs : ∀ n ∈ x.1.weights Try.prog 22, n ≤ reachBytes) : ∃ v d, cs = [v] ∧ BysC W v d := by
  rcases open_ints Try.underlying22 Try.underlying5 cU86 hf with ⟨hcs, hx⟩ | ⟨a, len, cap, zs, hcs, _, hl, hm, hz, hx, hcell, hwz⟩
  · exact ⟨_, [], hcs, ⟨⟨none, 0, rfl, by decide, fun j hj => by simp [bl] at hj, bl_bnd _⟩, by decide, fun a l c h _ => by cases h; rfl⟩, by simp, fun a l c h => by cases h; exact Nat.le_refl _⟩
  · subst hx
    simp only [if_true] at hz
    have hb := hs ((lits (H := H) .u8 (zs.take len)).length + (lits (H := H) .u8 (zs.drop len)).length) (by simp [DataW.weights, Try.underlying22, bU86])
    simp only [lits, List.length_map, List.length_take, List.length_drop, reachBytes] at hb
    have hlen : (zs.take len).length = len := by rw [List.length_take]; omega
    obtain ⟨d, hd, e⟩ := bl_of (zs.take len) (fun z h => u8_of_wf (hwz z (List.mem_of_mem_take h)))
    rw [hlen] at e
    refine ⟨_, d, hcs, ⟨⟨some a, cap, by rw [bl_len, e], by rw [bl_len]; omega, fun j hj => ?_, bl_bnd _⟩, by omega, fun a l c h h2 => by cases h; cases h2⟩, by omega, fun a l c h => by cases h; exact hl⟩
    rw [bl_len, e] at hj
    have hc := hcell j (by omega)
    obtain ⟨bb, off, spot⟩ := a
    have hspot : spot = none := by simpa [Addr.add] using World.cell?_spot (hcell 0 (by omega))
    subst hspot
    rw [addr_add] at hc
    refine ⟨bb, off, rfl, block_lt6 hc, ?_⟩
    rw [hc, ← hd, List.getD_eq_getElem?_getD, List.getD_eq_getElem?_getD, List.getElem?_take_of_lt hj]
end Go.Proofs.Ytnbkdlfkacbfjaa
