import Derived.Test.YtnbkdlfkacbfjaaProg
import Derived.WalkKit
import Derived.WalkSpells
import Derived.WalkLawsBesides
import Derived.Lib.QuietBelow
import Derived.Laws.BitsAllLaws
import Derived.BigQuiet
import Derived.WalkMore
import Derived.Test.YtnbkdlfkacbfjaaKit
import Derived.Test.YtnbkdlfkacbfjaaWs
namespace Go.Proofs.Ytnbkdlfkacbfjaa
open Go Go.RowKit Go.Sort
attribute [local go_sem] setCell_drewN alloc_drewN

/-- A field as a value. -/
def fagg (f : Fd) (u : Value) : Value := .agg #[.int .i64 f.no, .int .i64 f.ty, .int .u64 (f.num : Int), u]
theorem hd_or (a b : Nat) (ha : a ≤ 536870911) (hb : b < 8) : bits .or .u64 ((a : Int) * 8) (b : Int) = ((8 * a + b : Nat) : Int) := by
  have h := Nat.shiftLeft_add_eq_or_of_lt (i := 3) (b := b) (by omega) a
  rw [Nat.shiftLeft_eq] at h
  have h2 := u64_or_nat (a * 8) b (by omega) (by omega)
  rw [Int.natCast_mul] at h2
  rw [show (8 : Int) = ((8 : Nat) : Int) from rfl, h2, ← h]
  congr 1
  omega
theorem tyq (t k : Int) : (t == k) = decide (t = k) := by
  by_cases h : t = k
  · rw [decide_eq_true h]; simpa using h
  · rw [decide_eq_false h]; simpa using h
set_option maxHeartbeats 2000000 in
theorem a_checkHead (f : Fd) (u : Value) (last : Int) : Gives 19 #[fagg f u, .int .i64 last] (.int .i64 (hck f last)) := by
  intro w
  unfold fagg hck
  by_cases h1 : f.no ≤ last
  · have d1 : decide (f.no ≤ last) = true := decide_eq_true h1
    rw [if_pos (.inl h1)]
    have R0 := hp1_0 w (.cells #[.int .i64 f.no, .int .i64 f.ty, .int .u64 (f.num : Int), u] 35)
    have hw : Below w.heap.size w (w.alloc (.cells #[.int .i64 f.no, .int .i64 f.ty, .int .u64 (f.num : Int), u] 35)) := (Below.refl _ _).alloc (Nat.le_refl _) _
    have c0 : (w.alloc (.cells #[.int .i64 f.no, .int .i64 f.ty, .int .u64 (f.num : Int), u] 35)).cell? ⟨w.heap.size, 0, none⟩ = some (.int .i64 f.no) := cell_of_row _ _ _ _ _ _ R0
    have c1 : (w.alloc (.cells #[.int .i64 f.no, .int .i64 f.ty, .int .u64 (f.num : Int), u] 35)).cell? ⟨w.heap.size, 1, none⟩ = some (.int .i64 f.ty) := cell_of_row _ _ _ _ _ _ R0
    have c2 : (w.alloc (.cells #[.int .i64 f.no, .int .i64 f.ty, .int .u64 (f.num : Int), u] 35)).cell? ⟨w.heap.size, 2, none⟩ = some (.int .u64 (f.num : Int)) := cell_of_row _ _ _ _ _ _ R0
    have c3 : (w.alloc (.cells #[.int .i64 f.no, .int .i64 f.ty, .int .u64 (f.num : Int), u] 35)).cell? ⟨w.heap.size, 3, none⟩ = some (u) := cell_of_row _ _ _ _ _ _ R0
    go_enter Try.func19, Try.ntmps19
    clear R0
    go_wp2_with (fail)
    go_ret
    exact ⟨rfl, hw⟩
  have d1 : decide (f.no ≤ last) = false := decide_eq_false h1
  by_cases h2 : 536870911 < f.no
  · have d2 : decide (f.no > 536870911) = true := decide_eq_true h2
    rw [if_pos (.inr h2)]
    have R0 := hp1_0 w (.cells #[.int .i64 f.no, .int .i64 f.ty, .int .u64 (f.num : Int), u] 35)
    have hw : Below w.heap.size w (w.alloc (.cells #[.int .i64 f.no, .int .i64 f.ty, .int .u64 (f.num : Int), u] 35)) := (Below.refl _ _).alloc (Nat.le_refl _) _
    have c0 : (w.alloc (.cells #[.int .i64 f.no, .int .i64 f.ty, .int .u64 (f.num : Int), u] 35)).cell? ⟨w.heap.size, 0, none⟩ = some (.int .i64 f.no) := cell_of_row _ _ _ _ _ _ R0
    have c1 : (w.alloc (.cells #[.int .i64 f.no, .int .i64 f.ty, .int .u64 (f.num : Int), u] 35)).cell? ⟨w.heap.size, 1, none⟩ = some (.int .i64 f.ty) := cell_of_row _ _ _ _ _ _ R0
    have c2 : (w.alloc (.cells #[.int .i64 f.no, .int .i64 f.ty, .int .u64 (f.num : Int), u] 35)).cell? ⟨w.heap.size, 2, none⟩ = some (.int .u64 (f.num : Int)) := cell_of_row _ _ _ _ _ _ R0
    have c3 : (w.alloc (.cells #[.int .i64 f.no, .int .i64 f.ty, .int .u64 (f.num : Int), u] 35)).cell? ⟨w.heap.size, 3, none⟩ = some (u) := cell_of_row _ _ _ _ _ _ R0
    go_enter Try.func19, Try.ntmps19
    clear R0
    go_wp2_with (fail)
    go_ret
    exact ⟨rfl, hw⟩
  have d2 : decide (f.no > 536870911) = false := decide_eq_false h2
  rw [if_neg (by omega)]
  by_cases t0 : f.ty = 0
  · rw [t0, if_pos (show known 0 from .inl rfl)]
    have R0 := hp1_0 w (.cells #[.int .i64 f.no, .int .i64 0, .int .u64 (f.num : Int), u] 35)
    have hw : Below w.heap.size w (w.alloc (.cells #[.int .i64 f.no, .int .i64 0, .int .u64 (f.num : Int), u] 35)) := (Below.refl _ _).alloc (Nat.le_refl _) _
    have c0 : (w.alloc (.cells #[.int .i64 f.no, .int .i64 0, .int .u64 (f.num : Int), u] 35)).cell? ⟨w.heap.size, 0, none⟩ = some (.int .i64 f.no) := cell_of_row _ _ _ _ _ _ R0
    have c1 : (w.alloc (.cells #[.int .i64 f.no, .int .i64 0, .int .u64 (f.num : Int), u] 35)).cell? ⟨w.heap.size, 1, none⟩ = some (.int .i64 0) := cell_of_row _ _ _ _ _ _ R0
    have c2 : (w.alloc (.cells #[.int .i64 f.no, .int .i64 0, .int .u64 (f.num : Int), u] 35)).cell? ⟨w.heap.size, 2, none⟩ = some (.int .u64 (f.num : Int)) := cell_of_row _ _ _ _ _ _ R0
    have c3 : (w.alloc (.cells #[.int .i64 f.no, .int .i64 0, .int .u64 (f.num : Int), u] 35)).cell? ⟨w.heap.size, 3, none⟩ = some (u) := cell_of_row _ _ _ _ _ _ R0
    go_enter Try.func19, Try.ntmps19
    clear R0 h1 h2
    go_wp2_with (fail)
    go_ret
    exact ⟨rfl, hw⟩
  by_cases t1 : f.ty = 1
  · rw [t1, if_pos (show known 1 from .inr (.inl rfl))]
    have R0 := hp1_0 w (.cells #[.int .i64 f.no, .int .i64 1, .int .u64 (f.num : Int), u] 35)
    have hw : Below w.heap.size w (w.alloc (.cells #[.int .i64 f.no, .int .i64 1, .int .u64 (f.num : Int), u] 35)) := (Below.refl _ _).alloc (Nat.le_refl _) _
    have c0 : (w.alloc (.cells #[.int .i64 f.no, .int .i64 1, .int .u64 (f.num : Int), u] 35)).cell? ⟨w.heap.size, 0, none⟩ = some (.int .i64 f.no) := cell_of_row _ _ _ _ _ _ R0
    have c1 : (w.alloc (.cells #[.int .i64 f.no, .int .i64 1, .int .u64 (f.num : Int), u] 35)).cell? ⟨w.heap.size, 1, none⟩ = some (.int .i64 1) := cell_of_row _ _ _ _ _ _ R0
    have c2 : (w.alloc (.cells #[.int .i64 f.no, .int .i64 1, .int .u64 (f.num : Int), u] 35)).cell? ⟨w.heap.size, 2, none⟩ = some (.int .u64 (f.num : Int)) := cell_of_row _ _ _ _ _ _ R0
    have c3 : (w.alloc (.cells #[.int .i64 f.no, .int .i64 1, .int .u64 (f.num : Int), u] 35)).cell? ⟨w.heap.size, 3, none⟩ = some (u) := cell_of_row _ _ _ _ _ _ R0
    go_enter Try.func19, Try.ntmps19
    clear R0 h1 h2
    go_wp2_with (fail)
    go_ret
    exact ⟨rfl, hw⟩
  by_cases t2 : f.ty = 2
  · rw [t2, if_pos (show known 2 from .inr (.inr (.inl rfl)))]
    have R0 := hp1_0 w (.cells #[.int .i64 f.no, .int .i64 2, .int .u64 (f.num : Int), u] 35)
    have hw : Below w.heap.size w (w.alloc (.cells #[.int .i64 f.no, .int .i64 2, .int .u64 (f.num : Int), u] 35)) := (Below.refl _ _).alloc (Nat.le_refl _) _
    have c0 : (w.alloc (.cells #[.int .i64 f.no, .int .i64 2, .int .u64 (f.num : Int), u] 35)).cell? ⟨w.heap.size, 0, none⟩ = some (.int .i64 f.no) := cell_of_row _ _ _ _ _ _ R0
    have c1 : (w.alloc (.cells #[.int .i64 f.no, .int .i64 2, .int .u64 (f.num : Int), u] 35)).cell? ⟨w.heap.size, 1, none⟩ = some (.int .i64 2) := cell_of_row _ _ _ _ _ _ R0
    have c2 : (w.alloc (.cells #[.int .i64 f.no, .int .i64 2, .int .u64 (f.num : Int), u] 35)).cell? ⟨w.heap.size, 2, none⟩ = some (.int .u64 (f.num : Int)) := cell_of_row _ _ _ _ _ _ R0
    have c3 : (w.alloc (.cells #[.int .i64 f.no, .int .i64 2, .int .u64 (f.num : Int), u] 35)).cell? ⟨w.heap.size, 3, none⟩ = some (u) := cell_of_row _ _ _ _ _ _ R0
    go_enter Try.func19, Try.ntmps19
    clear R0 h1 h2
    go_wp2_with (fail)
    go_ret
    exact ⟨rfl, hw⟩
  by_cases t5 : f.ty = 5
  · rw [t5, if_pos (show known 5 from .inr (.inr (.inr rfl)))]
    have R0 := hp1_0 w (.cells #[.int .i64 f.no, .int .i64 5, .int .u64 (f.num : Int), u] 35)
    have hw : Below w.heap.size w (w.alloc (.cells #[.int .i64 f.no, .int .i64 5, .int .u64 (f.num : Int), u] 35)) := (Below.refl _ _).alloc (Nat.le_refl _) _
    have c0 : (w.alloc (.cells #[.int .i64 f.no, .int .i64 5, .int .u64 (f.num : Int), u] 35)).cell? ⟨w.heap.size, 0, none⟩ = some (.int .i64 f.no) := cell_of_row _ _ _ _ _ _ R0
    have c1 : (w.alloc (.cells #[.int .i64 f.no, .int .i64 5, .int .u64 (f.num : Int), u] 35)).cell? ⟨w.heap.size, 1, none⟩ = some (.int .i64 5) := cell_of_row _ _ _ _ _ _ R0
    have c2 : (w.alloc (.cells #[.int .i64 f.no, .int .i64 5, .int .u64 (f.num : Int), u] 35)).cell? ⟨w.heap.size, 2, none⟩ = some (.int .u64 (f.num : Int)) := cell_of_row _ _ _ _ _ _ R0
    have c3 : (w.alloc (.cells #[.int .i64 f.no, .int .i64 5, .int .u64 (f.num : Int), u] 35)).cell? ⟨w.heap.size, 3, none⟩ = some (u) := cell_of_row _ _ _ _ _ _ R0
    go_enter Try.func19, Try.ntmps19
    clear R0 h1 h2
    go_wp2_with (fail)
    go_ret
    exact ⟨rfl, hw⟩
  have q0 : (f.ty == 0) = false := by simpa using t0
  have q1 : (f.ty == 1) = false := by simpa using t1
  have q2 : (f.ty == 2) = false := by simpa using t2
  have q5 : (f.ty == 5) = false := by simpa using t5
  rw [if_neg (show ¬ known f.ty by unfold known; omega)]
  clear t0 t1 t2 t5
  have R0 := hp1_0 w (.cells #[.int .i64 f.no, .int .i64 f.ty, .int .u64 (f.num : Int), u] 35)
  have hw : Below w.heap.size w (w.alloc (.cells #[.int .i64 f.no, .int .i64 f.ty, .int .u64 (f.num : Int), u] 35)) := (Below.refl _ _).alloc (Nat.le_refl _) _
  have c0 : (w.alloc (.cells #[.int .i64 f.no, .int .i64 f.ty, .int .u64 (f.num : Int), u] 35)).cell? ⟨w.heap.size, 0, none⟩ = some (.int .i64 f.no) := cell_of_row _ _ _ _ _ _ R0
  have c1 : (w.alloc (.cells #[.int .i64 f.no, .int .i64 f.ty, .int .u64 (f.num : Int), u] 35)).cell? ⟨w.heap.size, 1, none⟩ = some (.int .i64 f.ty) := cell_of_row _ _ _ _ _ _ R0
  have c2 : (w.alloc (.cells #[.int .i64 f.no, .int .i64 f.ty, .int .u64 (f.num : Int), u] 35)).cell? ⟨w.heap.size, 2, none⟩ = some (.int .u64 (f.num : Int)) := cell_of_row _ _ _ _ _ _ R0
  have c3 : (w.alloc (.cells #[.int .i64 f.no, .int .i64 f.ty, .int .u64 (f.num : Int), u] 35)).cell? ⟨w.heap.size, 3, none⟩ = some (u) := cell_of_row _ _ _ _ _ _ R0
  go_enter Try.func19, Try.ntmps19
  clear R0 h1 h2
  go_wp2_with (fail)
  go_ret
  exact ⟨rfl, hw⟩
theorem hck_cases (f : Fd) (last : Int) : hck f last = 0 ∨ hck f last = 71 ∨ hck f last = 72 := by
  unfold hck
  split
  · exact .inr (.inl rfl)
  · split
    · exact .inl rfl
    · exact .inr (.inr rfl)
theorem Fok.hd {f : Fd} (h1 : f.no ≤ 536870911) (h2 : f.ty < 8) : fhd f < 18446744073709551616 := by unfold fhd; omega
end Go.Proofs.Ytnbkdlfkacbfjaa
