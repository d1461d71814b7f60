import Derived.Test.YtbbdfbljhjijbaaDoorHmb
namespace Go.Proofs.YtbbdfbljhjijbaaDoor
open Go Go.ChangeShapes Go.WideShapes Go.ChangeAt Go.RowKit Go.Deep

theorem size_setCell1 (W : World) (a : Addr) (v : Value) : (W.setCell a v).heap.size = W.heap.size := by simp [World.setCell]
theorem upd_le {c : Nat → List Int} {o n : Nat} {b : List Int} (hc : ∀ i, i < 3 → (c i).length ≤ n) (hb : b.length ≤ n) : ∀ i, i < 3 → (upd c o b i).length ≤ n := fun i hi => by
  by_cases e : i = o
  · subst e; rw [upd_same]; exact hb
  · rw [upd_other _ _ e]; exact hc i hi
theorem Inv.putS {N N' : Nat} {w W : World} {gA gC : Nat} {h : Nat → Nat} {s : Nat → Value} {c d : Nat → List Int} (hI : Inv N w W gA gC h s c d) {o : Nat} (ho : o < 3) {b : List Int} {ao : Option Addr} {cap : Nat} (hB : Bys W (.slice ao b.length cap) b) (hn : ao = none → cap = 0) (hb : ∀ a, ao = some a → 0 < b.length → a.block < N' ∧ a.block ≠ gA ∧ a.block ≠ gC ∧ ∀ j, j < 3 → a.block ≠ h j) (hNN : N ≤ N') (hN : N' ≤ W.heap.size) :
    Inv N' w (W.setCell ⟨gC, o, none⟩ (.slice ao b.length cap)) gA gC h (upd s o (.slice ao b.length cap)) c (upd d o b) := by
  refine hI.setS ho (fun k _ hne => heap_setCell_other _ _ _ _ hne) ?_ (hB.move (fun a ha hl => heap_setCell_other _ _ _ _ (hb a ha hl).2.2.1)) hn hb hNN (by rw [size_setCell1]; exact hN)
  rw [heap_setCell_same W gC o _ _ _ hI.2.1, srow_set _ _ _ ho]
theorem Inv.nilS {N : Nat} {w W : World} {gA gC : Nat} {h : Nat → Nat} {s : Nat → Value} {c d : Nat → List Int} (hI : Inv N w W gA gC h s c d) {o : Nat} (ho : o < 3) {E : List Int} (eE : E = []) : Inv N w (W.setCell ⟨gC, o, none⟩ (.slice none 0 0)) gA gC h (upd s o (.slice none 0 0)) c (upd d o E) := by
  subst eE
  exact hI.putS (b := []) (ao := none) (cap := 0) ho ⟨none, 0, rfl, (by show ([] : List Int).length ≤ _; decide), fun j hj => by simp at hj, by simp⟩ (fun _ => rfl) (fun a ha _ => by cases ha) (Nat.le_refl _) hI.2.2.1.2.2.2.2.2
theorem Inv.copyS {N : Nat} {w W : World} {gA gC : Nat} {h : Nat → Nat} {s : Nat → Value} {c d : Nat → List Int} (hI : Inv N w W gA gC h s c d) {o t : Nat} (ho : o < 3) (ht : t < 3) {ao : Option Addr} {cap : Nat} (es : s t = .slice ao (d t).length cap) : Inv N w (W.setCell ⟨gC, o, none⟩ (.slice ao (d t).length cap)) gA gC h (upd s o (.slice ao (d t).length cap)) c (upd d o (d t)) := by
  obtain ⟨ao', cap', e, h1, h2, h3⟩ := hI.2.2.2.2.2 t ht
  rw [es] at e
  cases e
  exact hI.putS ho h1 h2 h3 (Nat.le_refl _) hI.2.2.1.2.2.2.2.2
theorem Inv.putH {N N' : Nat} {w W : World} {gA gC : Nat} {h : Nat → Nat} {s : Nat → Value} {c d : Nat → List Int} (hI : Inv N w W gA gC h s c d) {o g : Nat} (ho : o < 3) {b : List Int} (hn : W.heap[g]? = some (.cells (hst b) 63 (0, 0))) (hz : ∀ z ∈ b, 0 ≤ z ∧ z < 256) (hg : N ≤ g) (hg' : g < N') (hN : N' ≤ W.heap.size) :
    Inv N' w (W.setCell ⟨gA, o, none⟩ (.pointer (some ⟨g, 0, none⟩))) gA gC (upd h o g) s (upd c o b) d := by
  have hA := hI.2.2.1.2.2.2.1
  refine hI.setH ho (fun k _ hne => heap_setCell_other _ _ _ _ hne) ?_ ((heap_setCell_other _ _ _ _ (show g ≠ gA by omega)).trans hn) hz hg hg' (by rw [size_setCell1]; exact hN)
  rw [heap_setCell_same W gA o _ _ _ hI.1, prow_set _ _ _ ho]
end Go.Proofs.YtbbdfbljhjijbaaDoor
