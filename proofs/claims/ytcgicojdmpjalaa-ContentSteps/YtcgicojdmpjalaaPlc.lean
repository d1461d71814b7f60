import Derived.Test.YtcgicojdmpjalaaPlb
namespace Go.Proofs.Ytcgicojdmpjalaa
open Go Go.RowKit Go.Sort
attribute [local go_sem] setCell_drewN alloc_drewN
/-- A word against 180 from above and against its opposite from below. -/
theorem refused {b : Nat} (h : ¬ b % 2 ^ 63 ≤ 0x4066800000000000) (hx : ¬ b / 2 ^ 52 % 2048 = 2047) :
    (FloatKind.f64.format.order b 13863909240395005952 = some .lt) ∨ (FloatKind.f64.format.order b 13863909240395005952 = some .gt ∧ FloatKind.f64.format.order b 4640537203540230144 = some .gt) := by
  have e := order_180 b false
  have e' := order_180 b true
  rw [show Ieee.double.order b (w180 false) = FloatKind.f64.format.order b 4640537203540230144 from rfl] at e
  rw [show Ieee.double.order b (w180 true) = FloatKind.f64.format.order b 13863909240395005952 from rfl] at e'
  rw [if_neg (show ¬ 2047 * 2 ^ 52 < b % 2 ^ 63 by omega)] at e e'
  rw [e, e']
  cases (b / 2 ^ 63 % 2 == 1)
  · right
    simp only [Bool.false_eq_true, if_true, if_false]
    exact ⟨trivial, by rw [Nat.compare_eq_gt.2 (by omega)]⟩
  · left
    simp only [if_true]
    rw [Nat.compare_eq_lt.2 (by omega)]
theorem taken {b : Nat} (h : b % 2 ^ 63 ≤ 0x4066800000000000) : ∃ o p, FloatKind.f64.format.order b 13863909240395005952 = some o ∧ FloatKind.f64.format.order b 4640537203540230144 = some p ∧ (some o == some Ordering.lt) = false ∧ (some p == some Ordering.gt) = false := by
  have e := order_180 b false
  have e' := order_180 b true
  rw [show Ieee.double.order b (w180 false) = FloatKind.f64.format.order b 4640537203540230144 from rfl] at e
  rw [show Ieee.double.order b (w180 true) = FloatKind.f64.format.order b 13863909240395005952 from rfl] at e'
  rw [if_neg (show ¬ 2047 * 2 ^ 52 < b % 2 ^ 63 by omega)] at e e'
  rw [e, e']
  refine ⟨_, _, rfl, rfl, ?_, ?_⟩
  · cases (b / 2 ^ 63 % 2 == 1)
    · rfl
    · simp only [if_true]
      rcases Nat.lt_or_ge (b % 2 ^ 63) 0x4066800000000000 with x | x
      · rw [Nat.compare_eq_gt.2 x]; rfl
      · rw [Nat.compare_eq_eq.2 (by omega)]; rfl
  · cases (b / 2 ^ 63 % 2 == 1)
    · simp only [if_true, Bool.false_eq_true, if_false]
      rcases Nat.lt_or_ge (b % 2 ^ 63) 0x4066800000000000 with x | x
      · rw [Nat.compare_eq_lt.2 x]; rfl
      · rw [Nat.compare_eq_eq.2 (by omega)]; rfl
    · rfl
theorem stp_eq {r : Nat} (h : ex r ≤ 1074) : stp r = rnd (mg r * 10000000) (1074 - ex r) := by
  unfold stp val
  rw [Nat.mul_right_comm, show dd = 1074 - ex r + ex r by rw [dd_eq]; omega, rnd_scale]
theorem sg_of {b : Nat} (hb : b < 2 ^ 64) (n : Nat) : sg (b / 2 ^ 63 % 2 == 1) n = if (b : Int) / 9223372036854775808 = 1 then -(n : Int) else n := by
  by_cases hn : (b : Int) / 9223372036854775808 = 1
  · rw [if_pos hn, show b / 2 ^ 63 = 1 by omega]; rfl
  · rw [if_neg hn, show b / 2 ^ 63 = 0 by omega]; rfl
set_option maxHeartbeats 4000000 in
theorem rs_far (b : Nat) (m M E : Nat) (hb : b < 2 ^ 64) (w : World) (r1 : ∀ w : World, (callFunc 7 #[.float .f64 b]).run Try.prog w = .ok (.value (.int .u64 b)) w) {o p : Ordering} (h1 : FloatKind.f64.format.order b 13863909240395005952 = some o) (h2 : FloatKind.f64.format.order b 4640537203540230144 = some p) (h3 : (some o == some Ordering.lt) = false) (h4 : (some p == some Ordering.gt) = false) (hE : (b : Int) / 4503599627370496 % 2048 = (E : Int)) (hm0 : (b : Int) % 4503599627370496 = (m : Int)) (_hE7 : ¬ E = 2047) (hEp : (0 : Int) < E) (hM : (m : Int) + 4503599627370496 = (M : Int)) (hm : M < 2 ^ 53) (hk : E < 990) (_hs : rnd (M * 10000000) (1074 - (E - 1)) ≤ 1800000000) : Calls Try.prog 6 #[.float .f64 b] w fun e w' => e = .returned (.tuple #[.int .i32 (sg (b / 2 ^ 63 % 2 == 1) (rnd (M * 10000000) (1074 - (E - 1)))), .int .i64 0]) ∧ Below w.heap.size w w' := by
  rw [ref_far hm (by omega)]
  have hz : sg (b / 2 ^ 63 % 2 == 1) 0 = 0 := by generalize (b / 2 ^ 63 % 2 == 1) = s; cases s <;> rfl
  rw [hz]
  clear _hs
  go_enter Try.func6, Try.ntmps6
  go_wp2
  all_goals go_ret2
  all_goals refine ⟨?_, .refl _ _⟩
  all_goals simp
set_option maxRecDepth 100000 in
set_option maxHeartbeats 4000000 in
theorem rs_near (b : Nat) (m M E : Nat) (hb : b < 2 ^ 64) (w : World) (r1 : ∀ w : World, (callFunc 7 #[.float .f64 b]).run Try.prog w = .ok (.value (.int .u64 b)) w) {o p : Ordering} (h1 : FloatKind.f64.format.order b 13863909240395005952 = some o) (h2 : FloatKind.f64.format.order b 4640537203540230144 = some p) (h3 : (some o == some Ordering.lt) = false) (h4 : (some p == some Ordering.gt) = false) (hE : (b : Int) / 4503599627370496 % 2048 = (E : Int)) (hm0 : (b : Int) % 4503599627370496 = (m : Int)) (_hE7 : ¬ E = 2047) (hEp : (0 : Int) < E) (hM : (m : Int) + 4503599627370496 = (M : Int)) (_hm : M < 2 ^ 53) (hk : ¬ E < 990) (hx : E - 1 ≤ 1029) (hs : rnd (M * 10000000) (1074 - (E - 1)) ≤ 1800000000) : Calls Try.prog 6 #[.float .f64 b] w fun e w' => e = .returned (.tuple #[.int .i32 (sg (b / 2 ^ 63 % 2 == 1) (rnd (M * 10000000) (1074 - (E - 1)))), .int .i64 0]) ∧ Below w.heap.size w w' := by
  obtain ⟨j, hj, hj1, hj2⟩ : ∃ j : Nat, 1074 - (E - 1) = j + 26 ∧ 1 ≤ j ∧ j < 60 := ⟨1049 - E, by omega, by omega, by omega⟩
  rw [hj] at hs ⊢
  rw [sg_of hb]
  obtain ⟨n1, n2, n3⟩ := ref_near (m := M) hj1
  have hH : (M : Int) / 67108864 * 10000000 + (M : Int) % 67108864 * 10000000 / 67108864 = ((hiq M : Nat) : Int) := by unfold hiq lwq; omega
  have hL : (M : Int) % 67108864 * 10000000 % 67108864 = ((loq M : Nat) : Int) := by unfold loq lwq; omega
  have hK : (1075 : Int) - E = ((j + 26 : Nat) : Int) := by omega
  have hHb : hiq M < 2 ^ 60 := by unfold hiq lwq; omega
  have hlb : loq M < 2 ^ 26 := Nat.mod_lt _ (by decide)
  have hu0 : 0 < 2 ^ j := Nat.two_pow_pos j
  have hu1 : 2 ^ j ≤ 2 ^ 59 := Nat.pow_le_pow_right (by omega) (by omega)
  have hr0 : hiq M % 2 ^ j < 2 ^ j := Nat.mod_lt _ hu0
  have hu : IntKind.u64.wrap ((2 : Int) ^ j) = ((2 ^ j : Nat) : Int) := by
    rw [show ((2 : Int) ^ j) = ((2 ^ j : Nat) : Int) by simp]
    exact IntWalk.u64_in _ ⟨by omega, by omega⟩
  obtain ⟨u, huu⟩ : ∃ u, 2 ^ j = u := ⟨_, rfl⟩
  rw [huu] at n1 n2 n3 hr0 hu hu0 hu1
  clear huu
  obtain ⟨q, hq⟩ : ∃ q : Nat, hiq M / u = q := ⟨_, rfl⟩
  obtain ⟨r, hr⟩ : ∃ r : Nat, hiq M % u = r := ⟨_, rfl⟩
  obtain ⟨v, hv⟩ : ∃ v : Nat, u / 2 = v := ⟨_, rfl⟩
  rw [hq, hr, hv] at n1 n2 n3
  rw [hr] at hr0
  have hq' : ((hiq M : Nat) : Int) / (u : Int) = (q : Int) := by rw [← hq]; simp
  have hr' : ((hiq M : Nat) : Int) % (u : Int) = (r : Int) := by rw [← hr]; simp
  have hv' : (u : Int) / 2 = (v : Int) := by omega
  have hui : ¬ (u : Int) = 0 := by omega
  have hu2 : (u : Int) ≤ 576460752303423488 := by omega
  have hHb' : ((hiq M : Nat) : Int) ≤ 1152921504606846975 := by omega
  have hlb' : ((loq M : Nat) : Int) ≤ 67108863 := by omega
  clear hq hr hv
  generalize hiq M = H at hH hHb hHb' hq' hr'
  generalize loq M = l at hL hlb hlb' n1 n2 n3
  generalize rnd (M * 10000000) (j + 26) = R at n1 n2 n3 hs ⊢
  have hjj : (j : Int) < 60 := by omega
  obtain ⟨x, hx1, hx2⟩ : ∃ x : Nat, R = q + x ∧ ((v < r ∧ x = 1) ∨ (r = v ∧ 0 < l ∧ x = 1) ∨ (r = v ∧ l = 0 ∧ q % 2 = 1 ∧ x = 1) ∨ (r = v ∧ l = 0 ∧ q % 2 = 0 ∧ x = 0) ∨ (r < v ∧ x = 0)) := by
    rcases Nat.lt_trichotomy r v with y | y | y
    · exact ⟨0, n3 y, .inr (.inr (.inr (.inr ⟨y, rfl⟩)))⟩
    · rcases Nat.eq_zero_or_pos l with z | z
      · rcases Nat.mod_two_eq_zero_or_one q with t | t
        · exact ⟨0, by rw [n2 ⟨y, z⟩, t], .inr (.inr (.inr (.inl ⟨y, z, t, rfl⟩)))⟩
        · exact ⟨1, by rw [n2 ⟨y, z⟩, t], .inr (.inr (.inl ⟨y, z, t, rfl⟩))⟩
      · exact ⟨1, n1 (.inr ⟨y, z⟩), .inr (.inl ⟨y, z, rfl⟩)⟩
    · exact ⟨1, n1 (.inl y), .inl ⟨y, rfl⟩⟩
  subst hx1
  clear n1 n2 n3 hj hHb hlb hu1 hr0
  have hqb : (q : Int) ≤ 1800000000 := by omega
  clear hs
  have hsgn : ∃ (t : Bool), (((b : Int) / 9223372036854775808 == 1) = t) ∧ ∀ n : Nat, (if (b : Int) / 9223372036854775808 = 1 then -(n : Int) else n) = if t then -(n : Int) else n := by
    by_cases hn : (b : Int) / 9223372036854775808 = 1
    · exact ⟨true, by rw [hn]; rfl, fun n => by rw [if_pos hn, if_pos rfl]⟩
    · exact ⟨false, beq_eq_false_iff_ne.2 hn, fun n => by rw [if_neg hn, if_neg (by decide)]⟩
  obtain ⟨t, ht, hg⟩ := hsgn
  rw [hg]
  clear hg
  rcases hx2 with ⟨y, rfl⟩ | ⟨rfl, y, rfl⟩ | ⟨rfl, z, y, rfl⟩ | ⟨rfl, z, y, rfl⟩ | ⟨y, rfl⟩
  · have y' : (v : Int) < r := by omega
    cases t
    all_goals
      go_enter Try.func6, Try.ntmps6
      go_wp2
      go_ret2
      exact ⟨rfl, .refl _ _⟩
  · have y' : (0 : Int) < l := by omega
    cases t
    all_goals
      go_enter Try.func6, Try.ntmps6
      go_wp2
      go_ret2
      exact ⟨rfl, .refl _ _⟩
  · have y' : (q : Int) % 2 = 1 := by omega
    have y2 : (q : Int).tmod 2 = 1 := by rw [Int.tmod_eq_emod_of_nonneg (by omega)]; omega
    have z1 : decide (0 < l) = false := by simp [z]
    have z2 : decide ((0 : Int) < l) = false := by simp [z]
    have z3 : (l == 0) = true := by simp [z]
    have z4 : ((l : Int) == 0) = true := by simp [z]
    clear y z
    cases t
    all_goals
      go_enter Try.func6, Try.ntmps6
      go_wp2
      go_ret2
      exact ⟨rfl, .refl _ _⟩
  · have y' : (q : Int) % 2 = 0 := by omega
    have y2 : (q : Int).tmod 2 = 0 := by rw [Int.tmod_eq_emod_of_nonneg (by omega)]; omega
    have z1 : decide (0 < l) = false := by simp [z]
    have z2 : decide ((0 : Int) < l) = false := by simp [z]
    have z3 : (l == 0) = true := by simp [z]
    have z4 : ((l : Int) == 0) = true := by simp [z]
    clear y z
    cases t
    all_goals
      go_enter Try.func6, Try.ntmps6
      go_wp2
      go_ret2
      exact ⟨rfl, .refl _ _⟩
  · have y' : (r : Int) < v := by omega
    have y2 : ¬ (v : Int) < r := by omega
    have y3 : ¬ (r : Int) = v := by omega
    cases t
    all_goals
      go_enter Try.func6, Try.ntmps6
      go_wp2
      go_ret2
      exact ⟨rfl, .refl _ _⟩
set_option maxHeartbeats 4000000 in
theorem rs_zero (b : Nat) (m : Nat) (hb : b < 2 ^ 64) (w : World) (r1 : ∀ w : World, (callFunc 7 #[.float .f64 b]).run Try.prog w = .ok (.value (.int .u64 b)) w) {o p : Ordering} (h1 : FloatKind.f64.format.order b 13863909240395005952 = some o) (h2 : FloatKind.f64.format.order b 4640537203540230144 = some p) (h3 : (some o == some Ordering.lt) = false) (h4 : (some p == some Ordering.gt) = false) (hE : (b : Int) / 4503599627370496 % 2048 = ((0 : Nat) : Int)) (hm0 : (b : Int) % 4503599627370496 = (m : Int)) (hm : m < 2 ^ 53) (_hs : rnd (m * 10000000) (1074 - 0) ≤ 1800000000) : Calls Try.prog 6 #[.float .f64 b] w fun e w' => e = .returned (.tuple #[.int .i32 (sg (b / 2 ^ 63 % 2 == 1) (rnd (m * 10000000) (1074 - 0))), .int .i64 0]) ∧ Below w.heap.size w w' := by
  rw [ref_far hm (by omega)]
  have hz : sg (b / 2 ^ 63 % 2 == 1) 0 = 0 := by generalize (b / 2 ^ 63 % 2 == 1) = s; cases s <;> rfl
  rw [hz]
  clear _hs
  go_enter Try.func6, Try.ntmps6
  go_wp2
  all_goals go_ret2
  all_goals refine ⟨?_, .refl _ _⟩
  all_goals simp
theorem r_steps (b : Nat) (hb : b < 2 ^ 64) (w : World) : Calls Try.prog 6 #[.float .f64 b] w fun e w' => e = .returned (.tuple #[.int .i32 (stI b), .int .i64 (stE b)]) ∧ Below w.heap.size w w' := by
  have r1 := run_bits b
  by_cases h : b % 2 ^ 63 ≤ 0x4066800000000000
  · have e1 : stI b = sg (b / 2 ^ 63 % 2 == 1) (stp (b % 2 ^ 63)) := if_pos h
    have e2 : stE b = 0 := if_pos h
    obtain ⟨o, p, h1, h2, h3, h4⟩ := taken h
    rw [e1, e2]
    clear e1 e2
    have hx : ex (b % 2 ^ 63) ≤ 1029 := by unfold ex; omega
    have hs := stp_le h
    rw [stp_eq (by omega)] at hs ⊢
    have hm := mg_lt (b % 2 ^ 63)
    obtain ⟨E, hE⟩ : ∃ E : Nat, (b : Int) / 4503599627370496 % 2048 = (E : Int) := ⟨b / 4503599627370496 % 2048, by omega⟩
    obtain ⟨m, hm0⟩ : ∃ m : Nat, (b : Int) % 4503599627370496 = (m : Int) := ⟨b % 4503599627370496, by omega⟩
    have hE7 : ¬ E = 2047 := by omega
    by_cases hE0 : 0 < E
    · obtain ⟨M, hM⟩ : ∃ M : Nat, (m : Int) + 4503599627370496 = (M : Int) := ⟨m + 4503599627370496, by omega⟩
      have q1 : mg (b % 2 ^ 63) = M := by unfold mg; rw [if_neg (by omega)]; omega
      have q2 : ex (b % 2 ^ 63) = E - 1 := by unfold ex; omega
      have hEp : (0 : Int) < E := by omega
      rw [q1, q2] at hs
      rw [q1] at hm
      rw [q2] at hx
      rw [q1, q2]
      clear q1 q2
      by_cases hk : E < 990
      · exact rs_far b m M E hb w r1 h1 h2 h3 h4 hE hm0 hE7 hEp hM hm hk hs
      · exact rs_near b m M E hb w r1 h1 h2 h3 h4 hE hm0 hE7 hEp hM hm hk hx hs
    · obtain ⟨M, rfl⟩ : ∃ M : Nat, m = M := ⟨m, rfl⟩
      obtain rfl : E = 0 := by omega
      have q1 : mg (b % 2 ^ 63) = m := by unfold mg; rw [if_pos (by omega)]; omega
      have q2 : ex (b % 2 ^ 63) = 0 := by unfold ex; omega
      rw [q1, q2] at hs
      rw [q1] at hm
      rw [q2] at hx
      rw [q1, q2]
      clear q1 q2
      exact rs_zero b m hb w r1 h1 h2 h3 h4 hE hm0 hm hs
  · have e1 : stI b = 0 := if_neg h
    have e2 : stE b = 91 := if_neg h
    rw [e1, e2]
    by_cases hx : b / 2 ^ 52 % 2048 = 2047
    · have hx' : (b : Int) / 4503599627370496 % 2048 = 2047 := by omega
      clear e1 e2
      go_enter Try.func6, Try.ntmps6
      go_wp2
      go_ret2
      exact ⟨rfl, .refl _ _⟩
    · have hx' : ¬ (b : Int) / 4503599627370496 % 2048 = 2047 := by omega
      have hc := refused h hx
      clear e1 e2 hx h
      rcases hc with hc | ⟨hc, hd⟩
      all_goals
        go_enter Try.func6, Try.ntmps6
        go_wp2
        go_ret2
        exact ⟨rfl, .refl _ _⟩
end Go.Proofs.Ytcgicojdmpjalaa
