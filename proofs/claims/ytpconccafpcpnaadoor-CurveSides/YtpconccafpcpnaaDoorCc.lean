import Derived.Test.YtpconccafpcpnaaDoorProg
import Derived.WalkKit
import Derived.WalkSpells
import Derived.WalkLawsBesides
import Derived.Lib.QuietBelow
import Derived.BigQuiet
import Derived.Test.YtpconccafpcpnaaDoorKa
import Derived.Test.YtpconccafpcpnaaDoorCa
import Derived.Test.YtpconccafpcpnaaDoorAe
namespace Go.Proofs.YtpconccafpcpnaaDoor
set_option maxRecDepth 100000
open Go.RowKit Go.Sort
attribute [local go_sem] setCell_drewN alloc_drewN

theorem div_bd (z : Int) (j : Nat) (h : 0 ≤ z ∧ z < 256) : 0 ≤ z / 2 ^ j ∧ z / 2 ^ j < 256 := by
  have h1 := Int.ediv_nonneg h.1 (Int.le_of_lt (Int.pow_pos (n := 2) (m := j) (by decide)))
  have h2 := Int.ediv_le_self (2 ^ j) h.1
  omega
theorem and_one (x : Int) (h : 0 ≤ x ∧ x < 256) : bits .and .u8 x 1 = x % 2 := by
  obtain ⟨n, rfl⟩ := Int.eq_ofNat_of_zero_le h.1
  have : ∀ n : Nat, n < 256 → bits .and .u8 (n : Int) 1 = (n : Int) % 2 := by decide +kernel
  exact this n (by omega)
theorem bit_int (z : Int) (j : Nat) (h : 0 ≤ z ∧ z < 256) : (bits .and .u8 (z / 2 ^ j) 1 == 1) = decide (z / 2 ^ j % 2 = 1) := by
  rw [and_one _ (div_bd z j h)]
  by_cases e : z / 2 ^ j % 2 = 1
  · rw [decide_eq_true e, beq_iff_eq]; exact e
  · rw [decide_eq_false e, beq_eq_false_iff_ne]; exact e
theorem bit_int' (z : Int) (j : Nat) (h : 0 ≤ z ∧ z < 256) : ((z / 2 ^ j).tmod 2 == 1) = decide (z / 2 ^ j % 2 = 1) := by
  rw [Int.tmod_eq_emod_of_nonneg (div_bd z j h).1]
  by_cases e : z / 2 ^ j % 2 = 1
  · rw [decide_eq_true e, beq_iff_eq]; exact e
  · rw [decide_eq_false e, beq_eq_false_iff_ne]; exact e
set_option maxHeartbeats 4000000 in
/-- The closure's bit. -/
theorem bit_any (S : Int) (g t : Nat) (ht : t < 256) (W : World) (hg : W.heap[g]? = some (.cells (kb S) 34 (0, 0))) :
    Calls Tryd.prog 59 #[.int .i64 t, .pointer (some ⟨g, 0, none⟩)] W fun e w' => e = .returned (.bool (bt S t)) ∧ Below W.heap.size W w' := by
  have hc : W.cell? ⟨g, t / 8, none⟩ = some (.int .u8 (byt S (t / 8))) := (cell_of_row _ _ _ _ _ _ hg).trans (kb_at S (t / 8) (by omega))
  have hb := byt_bd S (t / 8)
  rw [bt_byt]
  generalize byt S (t / 8) = z at *
  go_enter Tryd.func59, Tryd.ntmps59
  go_wp2
  go_ret
  exact ⟨ret_bool (bit_int z (t % 8) hb), Below.refl _ _⟩
set_option maxHeartbeats 4000000 in
set_option maxRecDepth 10000 in
/-- The reference's bit. -/
theorem r_bit (S : Int) (t : Nat) (ht : t < 256) : Gives 62 #[.agg (kb S), .int .i64 t] (.bool (bt S t)) := by
  intro w
  have hb := byt_bd S (t / 8)
  have q := kb_at S (t / 8) (by omega)
  have r0 := hp1_0 w (.cells (kb S) 34)
  have hw : Below w.heap.size w (w.alloc (.cells (kb S) 34)) := (Below.refl _ _).alloc (Nat.le_refl _) _
  rw [bt_byt]
  generalize byt S (t / 8) = z at *
  go_enter Tryd.func62, Tryd.ntmps62
  iterate 9 go_step
  generalize (w.alloc (.cells (kb S) 34)) = w0 at *
  have hc : w0.cell? ⟨w.heap.size, t / 8, none⟩ = some (.int .u8 z) := (cell_of_row _ _ _ _ _ _ r0).trans q
  go_wp2
  go_ret
  exact ⟨ret_bool (bit_int' z (t % 8) hb), hw⟩
end Go.Proofs.YtpconccafpcpnaaDoor
