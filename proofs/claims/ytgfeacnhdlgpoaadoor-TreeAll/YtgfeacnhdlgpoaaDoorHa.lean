import Derived.Test.YtgfeacnhdlgpoaaDoorHk
namespace Go.Proofs.YtgfeacnhdlgpoaaDoor
set_option maxRecDepth 100000
open Go Go.RowKit Go.Sort
attribute [local go_sem] setCell_drewN alloc_drewN

/-! What a block comes to, on lists of numbers. -/
/-- x turned to the right. -/
def rot (x : Int) (n : Nat) : Int := bits .or .u32 (x / 2 ^ n) (x * 2 ^ (32 - n) % 4294967296)
def lo0 (x : Int) : Int := bits .xor .u32 (bits .xor .u32 (rot x 7) (rot x 18)) (x / 8)
def lo1 (x : Int) : Int := bits .xor .u32 (bits .xor .u32 (rot x 17) (rot x 19)) (x / 1024)
def up0 (x : Int) : Int := bits .xor .u32 (bits .xor .u32 (rot x 2) (rot x 13)) (rot x 22)
def up1 (x : Int) : Int := bits .xor .u32 (bits .xor .u32 (rot x 6) (rot x 11)) (rot x 25)
theorem or_comm (x y : Int) : bits .or .u32 x y = bits .or .u32 y x := by
  unfold bits
  simp only [BitVec.or_comm]
theorem and31 : ∀ n : Nat, n < 32 → 0 < n → bits .and .u64 ((-(n : Int)) % 18446744073709551616) 31 = ((32 - n : Nat) : Int) := by decide +kernel
theorem shr_rot (m n : Nat) (h : m + n = 32) (x : Int) : bits .or .u32 (x * 2 ^ m % 4294967296) (x / 2 ^ n) = rot x n := by
  rw [or_comm, rot, show 32 - n = m by omega]
set_option maxHeartbeats 1000000 in
theorem a_rotate (x : Int) (n : Nat) (h0 : 0 < n) (h1 : n < 32) : Gives 81 #[.int .u32 x, .int .i64 (-(n : Int))] (.int .u32 (rot x n)) := by
  intro w
  have ha : bits .and .u64 (IntKind.u64.wrap (-(n : Int))) 31 = ((32 - n : Nat) : Int) := by rw [IntKind.wrap_u64]; exact and31 n h1 h0
  have hn : 32 - n < 32 := by omega
  have hm : (32 - n) + n = 32 := by omega
  generalize 32 - n = m at *
  go_enter Tryd.func81, Tryd.ntmps81
  go_wp2_with (simp only [ha])
  go_ret
  refine ⟨?_, Below.refl _ _⟩
  rw [← shr_rot m n hm, show 32 - m = n by omega]
  rfl
set_option maxHeartbeats 1000000 in
theorem a_right (x : Int) (n : Nat) (h0 : 0 < n) (h1 : n < 32) : Gives 78 #[.int .u32 x, .int .i64 (n : Int)] (.int .u32 (rot x n)) := by
  intro w
  have hc := a_rotate x n h0 h1
  generalize rot x n = r at *
  go_enter Tryd.func78, Tryd.ntmps78
  go_wp2_with (fail)
  refine (hc.at _).mono ?_
  rintro e w1 ⟨rfl, hb⟩
  go_wp2
  go_ret
  exact ⟨rfl, hb⟩
set_option maxHeartbeats 1000000 in
theorem r_turn (x : Int) (n : Nat) (h0 : 0 < n) (h1 : n < 32) : Gives 80 #[.int .u32 x, .int .u64 (n : Int)] (.int .u32 (rot x n)) := by
  intro w
  go_enter Tryd.func80, Tryd.ntmps80
  go_wp2
  go_ret
  exact ⟨rfl, Below.refl _ _⟩
set_option maxHeartbeats 1000000 in
theorem r_lo0 (x : Int) : Gives 75 #[.int .u32 x] (.int .u32 (lo0 x)) := by
  intro w
  have c7 := r_turn x 7 (by decide) (by decide)
  have c18 := r_turn x 18 (by decide) (by decide)
  unfold lo0
  generalize rot x 7 = r7 at *
  generalize rot x 18 = r18 at *
  go_enter Tryd.func75, Tryd.ntmps75
  go_wp2_with (fail)
  refine (c7.at _).mono ?_
  rintro e w7 ⟨rfl, hb7⟩
  go_wp2_with (fail)
  refine (c18.at _).mono ?_
  rintro e w18 ⟨rfl, hb18⟩
  go_wp2
  go_ret
  exact ⟨rfl, Below.after (hb7) hb18⟩
set_option maxHeartbeats 1000000 in
theorem r_lo1 (x : Int) : Gives 74 #[.int .u32 x] (.int .u32 (lo1 x)) := by
  intro w
  have c17 := r_turn x 17 (by decide) (by decide)
  have c19 := r_turn x 19 (by decide) (by decide)
  unfold lo1
  generalize rot x 17 = r17 at *
  generalize rot x 19 = r19 at *
  go_enter Tryd.func74, Tryd.ntmps74
  go_wp2_with (fail)
  refine (c17.at _).mono ?_
  rintro e w17 ⟨rfl, hb17⟩
  go_wp2_with (fail)
  refine (c19.at _).mono ?_
  rintro e w19 ⟨rfl, hb19⟩
  go_wp2
  go_ret
  exact ⟨rfl, Below.after (hb17) hb19⟩
set_option maxHeartbeats 1000000 in
theorem r_up0 (x : Int) : Gives 77 #[.int .u32 x] (.int .u32 (up0 x)) := by
  intro w
  have c2 := r_turn x 2 (by decide) (by decide)
  have c13 := r_turn x 13 (by decide) (by decide)
  have c22 := r_turn x 22 (by decide) (by decide)
  unfold up0
  generalize rot x 2 = r2 at *
  generalize rot x 13 = r13 at *
  generalize rot x 22 = r22 at *
  go_enter Tryd.func77, Tryd.ntmps77
  go_wp2_with (fail)
  refine (c2.at _).mono ?_
  rintro e w2 ⟨rfl, hb2⟩
  go_wp2_with (fail)
  refine (c13.at _).mono ?_
  rintro e w13 ⟨rfl, hb13⟩
  go_wp2_with (fail)
  refine (c22.at _).mono ?_
  rintro e w22 ⟨rfl, hb22⟩
  go_wp2
  go_ret
  exact ⟨rfl, Below.after (Below.after (hb2) hb13) hb22⟩
set_option maxHeartbeats 1000000 in
theorem r_up1 (x : Int) : Gives 76 #[.int .u32 x] (.int .u32 (up1 x)) := by
  intro w
  have c6 := r_turn x 6 (by decide) (by decide)
  have c11 := r_turn x 11 (by decide) (by decide)
  have c25 := r_turn x 25 (by decide) (by decide)
  unfold up1
  generalize rot x 6 = r6 at *
  generalize rot x 11 = r11 at *
  generalize rot x 25 = r25 at *
  go_enter Tryd.func76, Tryd.ntmps76
  go_wp2_with (fail)
  refine (c6.at _).mono ?_
  rintro e w6 ⟨rfl, hb6⟩
  go_wp2_with (fail)
  refine (c11.at _).mono ?_
  rintro e w11 ⟨rfl, hb11⟩
  go_wp2_with (fail)
  refine (c25.at _).mono ?_
  rintro e w25 ⟨rfl, hb25⟩
  go_wp2
  go_ret
  exact ⟨rfl, Below.after (Below.after (hb6) hb11) hb25⟩
end Go.Proofs.YtgfeacnhdlgpoaaDoor
