import Derived.Test.YtcgicojdmpjalabPlf
namespace Go.Proofs.Ytcgicojdmpjalab
open Go Go.RowKit Go.Sort
attribute [local go_sem] setCell_drewN alloc_drewN
theorem below_after {w w1 w2 : World} (h : Below w.heap.size w w1) (hb : Below w1.heap.size w1 w2) : Below w.heap.size w w2 := h.trans (hb.mono h.size)
/-- What is done with the number of steps, the two floats being given by what Steps answers of them. -/
theorem run_neg (x : Nat) (w : World) : (Op.unary .neg (.float .f64 x)).run Try.prog w = .ok (.float .f64 (Op.negFloat .f64 x)) w := rfl
set_option maxHeartbeats 4000000 in
theorem places_any (n : Int) (h1 : -2147483648 ≤ n) (h2 : n ≤ 2147483647) (b : Nat) (hb : b < 18446744073709551616) (c : Nat) (hc : c < 18446744073709551616) (W : World) : Calls Try.prog 3 #[.int .i32 n, .int .u64 (b : Int), .int .u64 (c : Int)] W fun e W' => e = .returned (.bool true) ∧ Below W.heap.size W W' := by
  have cb := a_steps b hb
  obtain ⟨n1, n2, n3⟩ := neg_steps hb
  have cn := a_steps _ n1
  rw [n2, n3] at cn
  have cc := a_steps c hc
  have f1 := run_frombits (b : Int)
  have f2 := run_frombits (c : Int)
  rw [Int.toNat_natCast] at f1 f2
  have f3 := run_neg b
  generalize Op.negFloat .f64 b = b' at *
  -- the number of steps, brought within its bounds
  obtain ⟨m, hm1, hm2, hm3⟩ : ∃ m : Int, -1800000000 ≤ m ∧ m ≤ 1800000000 ∧ ((n < -1800000000 ∨ 1800000000 < n) ∧ n.tmod 1800000000 = m ∨ (-1800000000 ≤ n ∧ n ≤ 1800000000) ∧ m = n) := by
    by_cases h : n < -1800000000 ∨ 1800000000 < n
    · have l1 : (n.tmod 1800000000).natAbs < 1800000000 := by
        rw [Int.natAbs_tmod]; exact Nat.mod_lt _ (by decide)
      exact ⟨_, by omega, by omega, .inl ⟨h, rfl⟩⟩
    · exact ⟨n, by omega, by omega, .inr ⟨by omega, rfl⟩⟩
  obtain ⟨z, hz, hz1, hz2, hz3⟩ := deg_steps hm1 hm2
  have cD := a_degrees hz
  have cz := a_steps z hz1
  rw [hz2, hz3] at cz
  clear hz hz1 hz2 hz3 n1 n2 n3
  have hI := stI_le b
  have hE := stE_cases b
  have hF := stE_cases c
  have hout := @stI_out b
  have hmono := @mono_steps b c
  -- what the comparisons answer
  have key : (stE b = 0 ∧ (FloatKind.f64.format.order b 13863909240395005952 == some .gt || FloatKind.f64.format.order b 13863909240395005952 == some .eq) = true ∧ (FloatKind.f64.format.order b 4640537203540230144 == some .lt || FloatKind.f64.format.order b 4640537203540230144 == some .eq) = true ∧ (stE c = 0 ∧ (FloatKind.f64.format.order b c == some .lt || FloatKind.f64.format.order b c == some .eq) = true ∧ stI b ≤ stI c ∨ stE c = 0 ∧ (FloatKind.f64.format.order b c == some .lt || FloatKind.f64.format.order b c == some .eq) = false ∨ stE c = 91)) ∨
      (stE b = 91 ∧ stI b = 0 ∧ ((FloatKind.f64.format.order b 13863909240395005952 == some .gt || FloatKind.f64.format.order b 13863909240395005952 == some .eq) = false ∨ (FloatKind.f64.format.order b 13863909240395005952 == some .gt || FloatKind.f64.format.order b 13863909240395005952 == some .eq) = true ∧ (FloatKind.f64.format.order b 4640537203540230144 == some .lt || FloatKind.f64.format.order b 4640537203540230144 == some .eq) = false)) := by
    rcases hE with ⟨e1, e2⟩ | ⟨e1, e2⟩
    · left
      obtain ⟨p, q, t1, t2, t3, t4⟩ := in_taken e2
      refine ⟨e1, ?_, ?_, ?_⟩
      · rw [t1]; rcases t3 with rfl | rfl <;> rfl
      · rw [t2]; rcases t4 with rfl | rfl <;> rfl
      · rcases hF with ⟨g1, g2⟩ | ⟨g1, g2⟩
        · have hm := hmono e2 g2
          generalize FloatKind.f64.format.order b c = o at *
          cases o with
          | none => exact .inr (.inl ⟨g1, rfl⟩)
          | some x =>
            cases x with
            | lt => exact .inl ⟨g1, rfl, hm (.inl rfl)⟩
            | eq => exact .inl ⟨g1, rfl, hm (.inr rfl)⟩
            | gt => exact .inr (.inl ⟨g1, rfl⟩)
        · exact .inr (.inr g1)
    · right
      refine ⟨e1, hout e1, ?_⟩
      rcases in_refused e2 with x | x | ⟨x, y⟩
      · rw [x]; exact .inl rfl
      · rw [x]; exact .inl rfl
      · rw [x, y]; exact .inr ⟨rfl, rfl⟩
  clear hE hF hout hmono
  obtain ⟨I, eI⟩ : ∃ I, stI b = I := ⟨_, rfl⟩
  obtain ⟨E, eE⟩ : ∃ E, stE b = E := ⟨_, rfl⟩
  obtain ⟨J, eJ⟩ : ∃ J, stI c = J := ⟨_, rfl⟩
  obtain ⟨G, eG⟩ : ∃ G, stE c = G := ⟨_, rfl⟩
  rw [eI, eE] at cb cn
  rw [eJ, eG] at cc
  rw [eI] at hI
  rw [eE, eI, eJ, eG] at key
  clear eI eE eJ eG
  obtain ⟨i1, i2⟩ := hI
  rcases key with ⟨rfl, k1, k2, ⟨rfl, k3, k4⟩ | ⟨rfl, k3⟩ | rfl⟩ | ⟨rfl, rfl, k1 | ⟨k1, k2⟩⟩
  all_goals rcases hm3 with ⟨hm3 | hm3, hm4⟩ | ⟨⟨hm3, hm4⟩, rfl⟩
  all_goals
    go_enter Try.func3, Try.ntmps3
    go_wp2_with (fail)
    refine (cD _).mono ?_
    rintro e_ w1 ⟨rfl, b1⟩
    go_wp2_with (fail)
    refine (cz _).mono ?_
    rintro e_ w2 ⟨rfl, b2⟩
    have bb := below_after b1 b2
    clear b1 b2
    go_wp2_with (fail)
    refine (cb _).mono ?_
    rintro e_ w3 ⟨rfl, b3⟩
    replace bb := below_after bb b3
    clear b3
    go_wp2_with (fail)
    refine (cn _).mono ?_
    rintro e_ w4 ⟨rfl, b4⟩
    replace bb := below_after bb b4
    clear b4
    go_wp2_with (fail)
    refine (cc _).mono ?_
    rintro e_ w5 ⟨rfl, b5⟩
    replace bb := below_after bb b5
    clear b5
    go_wp2_with (fail)
    go_ret
    exact ⟨rfl, bb⟩
end Go.Proofs.Ytcgicojdmpjalab

