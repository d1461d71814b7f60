import Derived.Test.YtleeadbceljfbaaGreatDoorQb3
import Derived.OwnWalk
import Derived.Deep.Cut
import Derived.Deep.RegionHeld3
namespace Go.Proofs.YtleeadbceljfbaaGreatDoor
set_option maxRecDepth 100000
open Go Go.RowKit Go.Sort
attribute [local go_sem] setCell_drewN alloc_drewN
/-- The schema of a bundle. -/
def bsl : List Slt := [.mk 1 5 32 32 [], .mk 2 5 32 32 [], .mk 3 4 0 0 [], .mk 4 5 32 32 []]
def bcs : Array Value := #[.int .i64 1, .int .i64 5, .int .u64 32, .int .u64 32, .slice none 0 0, .int .i64 2, .int .i64 5, .int .u64 32, .int .u64 32, .slice none 0 0, .int .i64 3, .int .i64 4, .int .u64 0, .int .u64 0, .slice none 0 0, .int .i64 4, .int .i64 5, .int .u64 32, .int .u64 32, .slice none 0 0]
theorem bsl_vld : vld bsl = 0 := by
  have h1 : ¬ lft bsl 1 256 < 0 := by simp [lft, bsl, lfL, fitN, fitB]
  have e10 : (en 10).length = 1 := by rw [en_lo (by decide)]; rfl
  have e32 : (en 32).length = 1 := by rw [en_lo (by decide)]; rfl
  have e18 : (en 18).length = 1 := by rw [en_lo (by decide)]; rfl
  have e24 : (en 24).length = 1 := by rw [en_lo (by decide)]; rfl
  have e34 : (en 34).length = 1 := by rw [en_lo (by decide)]; rfl
  have h2 : (spL bsl 0 0).2 = 104 := by simp [bsl, spL, slsz, hdl, tyOf, frm, cpd, e10, e32, e18, e24, e34]
  rw [vld, if_neg h1, if_neg (by rw [h2]; decide)]
theorem bsl_slo {W : World} {g : Nat} (h : Bx W g bcs) : Slo W (.slice (some ⟨g, 0, none⟩) 4 4) bsl := by
  have hlt := h.lt
  refine Slo.mk (some ⟨g, 0, none⟩) 4 bsl [.slice none 0 0, .slice none 0 0, .slice none 0 0, .slice none 0 0] (by simp [bsl]) (by simp [bsl]) (fun e => by cases e) (fun i hi => ⟨g, 0, rfl, hlt, ?_, ?_⟩) (fun i hi => ?_)
  · obtain ⟨T, h⟩ := h
    intro j v hv
    rw [cell_of_row _ _ _ _ _ _ h]
    have hj : j < 5 := by have := (List.getElem?_eq_some_iff.1 hv).1; simpa [srow] using this
    have hi3 : i < 4 := hi
    rcases (by omega : i = 0 ∨ i = 1 ∨ i = 2 ∨ i = 3) with rfl | rfl | rfl | rfl <;> rcases (by omega : j = 0 ∨ j = 1 ∨ j = 2 ∨ j = 3 ∨ j = 4) with rfl | rfl | rfl | rfl | rfl <;> exact hv
  · have hi3 : i < 4 := hi
    rcases (by omega : i = 0 ∨ i = 1 ∨ i = 2 ∨ i = 3) with rfl | rfl | rfl | rfl <;> (unfold Sok; decide)
  · have hi3 : i < 4 := hi
    rcases (by omega : i = 0 ∨ i = 1 ∨ i = 2 ∨ i = 3) with rfl | rfl | rfl | rfl <;> exact Slo.mk none 0 [] [] (by simp) (by simp) (fun _ => rfl) (fun i hi => by simp at hi) (fun i hi => by simp at hi)
theorem bsl_flat : ∀ i, i < bsl.length → Fla (gs bsl i) := fun i hi => by
  have hi3 : i < 4 := hi
  rcases (by omega : i = 0 ∨ i = 1 ∨ i = 2 ∨ i = 3) with rfl | rfl | rfl | rfl <;> (unfold Fla; decide)
theorem infoSlB : (Tryz.prog.info? 99).map (·.size) = some 5 := by kernel_rfl
end Go.Proofs.YtleeadbceljfbaaGreatDoor
