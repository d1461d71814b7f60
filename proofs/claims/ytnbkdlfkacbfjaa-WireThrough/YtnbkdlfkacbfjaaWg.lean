import Derived.Test.YtnbkdlfkacbfjaaProg
import Derived.WalkKit
import Derived.WalkSpells
import Derived.WalkLawsBesides
import Derived.Lib.QuietBelow
import Derived.Laws.BitsAllLaws
import Derived.BigQuiet
import Derived.WalkMore
import Derived.Test.YtnbkdlfkacbfjaaKit
import Derived.Test.YtnbkdlfkacbfjaaWf
namespace Go.Proofs.Ytnbkdlfkacbfjaa
open Go Go.RowKit Go.Sort
attribute [local go_sem] setCell_drewN alloc_drewN

theorem bysB_row {W : World} {g : Nat} {bs : List B} {T : List Int} {t : TypeId} (hg : W.heap[g]? = some (.cells (irow .u8 (bl bs ++ T)) t (0, 0))) (hl : bs.length ≤ 140737488355000) (cap : Nat) : BysB W (.slice (some ⟨g, 0, none⟩) bs.length cap) bs := by
  refine ⟨⟨some ⟨g, 0, none⟩, cap, by rw [bl_len], by rw [bl_len]; omega, fun j hj => ⟨g, 0, rfl, lt_of_row hg, ?_⟩, bl_bnd _⟩, hl, fun a l c h h2 => by cases h; cases h2⟩
  have := irow_cell hg (j := j) (by rw [List.length_append]; omega)
  rw [Nat.zero_add, this, List.getD_eq_getElem?_getD, List.getElem?_append_left hj, ← List.getD_eq_getElem?_getD]
theorem l_lent (bs : List B) (w : World) (v : Value) (hB : BysB w v bs) : Calls Try.prog 4 #[v] w fun e w' => ∃ v, e = .returned v ∧ ∃ g, v = .tuple #[.slice (some ⟨g, 0, none⟩) bs.length (bs.length + 80), .slice (some ⟨g, 0, none⟩) (bs.length + 80) (bs.length + 80)] ∧ w.heap.size ≤ g ∧ w'.heap[g]? = some (.cells (irow .u8 (bl bs ++ marks 80)) 5 (0, 0)) ∧ Below w.heap.size w w' := by
  have h := lent_walk (bl bs) w v hB.1 (by rw [bl_len]; have := hB.2.1; omega) hB.2.2
  rw [bl_len] at h
  exact h
theorem l_kept (bs : List B) (g : Nat) (w : World) (v : Value) (hB : BysB w v bs) (hg : w.heap[g]? = some (.cells (irow .u8 (bl bs ++ marks 80)) 5 (0, 0))) : Calls Try.prog 8 #[.slice (some ⟨g, 0, none⟩) (bs.length + 80) (bs.length + 80), v] w fun e w' => e = .returned (.bool true) ∧ Below w.heap.size w w' := by
  have h := kept_walk (bl bs) g w v hB.1 (by rw [bl_len]; have := hB.2.1; omega) hg
  rw [bl_len] at h
  exact h
theorem own_ne {W : World} {b g : Nat} {v : Value} {d : List B} (h : Own W b v d) (hg : g < b) : ∀ k l c, v = .slice (some ⟨k, 0, none⟩) l c → k ≠ g := by
  intro k l c e
  have := own_low h k (by rw [e]; rfl)
  omega
/-- What Number answers, at any place. -/
def nri (bs : List B) (p : Int) : Value := if 0 ≤ p ∧ p ≤ bs.length then nres p.toNat (rd 0 (bs.drop p.toNat)) else .tuple #[.int .u64 0, .int .i64 0, .int .i64 1]
theorem nres_form (p : Nat) (r : RN) : ∃ a b c : Int, nres p r = .tuple #[.int .u64 a, .int .i64 b, .int .i64 c] := by
  cases r <;> exact ⟨_, _, _, rfl⟩
theorem nri_form (bs : List B) (p : Int) : ∃ a b c : Int, nri bs p = .tuple #[.int .u64 a, .int .i64 b, .int .i64 c] := by
  unfold nri
  split
  · exact nres_form _ _
  · exact ⟨_, _, _, rfl⟩
theorem a_num (bs : List B) (p : Int) (w : World) (v : Value) (hB : BysB w v bs) : Calls Try.prog 18 #[v, .int .i64 p] w fun e w' => e = .returned (nri bs p) ∧ Below w.heap.size w w' := by
  by_cases h : 0 ≤ p ∧ p ≤ bs.length
  · have := a_number bs p.toNat (by omega) w v hB
    rw [Int.toNat_of_nonneg h.1] at this
    rw [nri, if_pos h]
    exact this
  · rw [nri, if_neg h]
    exact a_number_out bs p (by omega) w v hB
theorem r_num (bs : List B) (p : Int) (w : World) (v : Value) (hB : BysB w v bs) : Calls Try.prog 14 #[v, .int .i64 p] w fun e w' => e = .returned (nri bs p) ∧ Below w.heap.size w w' := by
  by_cases h : 0 ≤ p ∧ p ≤ bs.length
  · have := r_number bs p.toNat (by omega) w v hB
    rw [Int.toNat_of_nonneg h.1] at this
    rw [nri, if_pos h]
    exact this
  · rw [nri, if_neg h]
    exact r_number_out bs p (by omega) w v hB
theorem en300 : nres 0 (rd 0 ([] ++ en 300)) = .tuple #[.int .u64 300, .int .i64 2, .int .i64 0] := by
  have h := rd0_en (n := 300) (by decide) []
  rw [List.append_nil] at h
  have hl : (en 300).length = 2 := by
    rw [en_hi (by decide), en_lo (by decide)]; rfl
  rw [List.nil_append, h, hl]
  rfl
end Go.Proofs.Ytnbkdlfkacbfjaa
