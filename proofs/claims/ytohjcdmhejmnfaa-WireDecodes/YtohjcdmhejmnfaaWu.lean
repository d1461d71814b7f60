import Derived.Test.YtohjcdmhejmnfaaProg
import Derived.WalkKit
import Derived.WalkSpells
import Derived.WalkLawsBesides
import Derived.Lib.QuietBelow
import Derived.Laws.BitsAllLaws
import Derived.BigQuiet
import Derived.WalkMore
import Derived.Test.YtohjcdmhejmnfaaKit
import Derived.Test.YtohjcdmhejmnfaaWt
namespace Go.Proofs.Ytohjcdmhejmnfaa
open Go Go.RowKit Go.Sort
attribute [local go_sem] setCell_drewN alloc_drewN

set_option maxHeartbeats 1000000 in
theorem r_known (t : Int) : Gives 29 #[.int .i64 t] (.bool (decide (known t))) := by
  intro w
  by_cases hk : known t
  · rw [decide_eq_true hk]
    rcases hk with rfl | rfl | rfl | rfl
    all_goals
      go_enter Try.func29, Try.ntmps29
      go_wp2_with (fail)
      go_ret
      exact ⟨rfl, Below.refl _ _⟩
  · rw [decide_eq_false hk]
    have q0 : (t == 0) = false := by unfold known at hk; simp; omega
    have q1 : (t == 1) = false := by unfold known at hk; simp; omega
    have q2 : (t == 2) = false := by unfold known at hk; simp; omega
    have q5 : (t == 5) = false := by unfold known at hk; simp; omega
    clear hk
    go_enter Try.func29, Try.ntmps29
    go_wp2_with (fail)
    go_ret
    exact ⟨rfl, Below.refl _ _⟩
theorem fits_iff (f : Fd) : fits f ↔ if f.ty = 2 then f.num = 0 else f.dat = [] ∧ (f.ty = 5 → f.num ≤ 4294967295) := Iff.rfl
set_option maxHeartbeats 4000000 in
theorem r_fits (f : Fd) (ao : Option Addr) (cap : Nat) : Gives 30 #[fagg f (.slice ao f.dat.length cap)] (.bool (decide (fits f))) := by
  intro w
  have hf2 := fits_iff f
  obtain ⟨u, hue⟩ : ∃ u, Value.slice ao f.dat.length cap = u := ⟨_, rfl⟩
  rw [hue]
  unfold fagg
  have R0 := hp1_0 w (.cells #[.int .i64 f.no, .int .i64 f.ty, .int .u64 (f.num : Int), u] 38)
  have hw : Below w.heap.size w (w.alloc (.cells #[.int .i64 f.no, .int .i64 f.ty, .int .u64 (f.num : Int), u] 38)) := (Below.refl _ _).alloc (Nat.le_refl _) _
  have c0 : (w.alloc (.cells #[.int .i64 f.no, .int .i64 f.ty, .int .u64 (f.num : Int), u] 38)).cell? ⟨w.heap.size, 0, none⟩ = some (.int .i64 f.no) := cell_of_row _ _ _ _ _ _ R0
  have c1 : (w.alloc (.cells #[.int .i64 f.no, .int .i64 f.ty, .int .u64 (f.num : Int), u] 38)).cell? ⟨w.heap.size, 1, none⟩ = some (.int .i64 f.ty) := cell_of_row _ _ _ _ _ _ R0
  have c2 : (w.alloc (.cells #[.int .i64 f.no, .int .i64 f.ty, .int .u64 (f.num : Int), u] 38)).cell? ⟨w.heap.size, 2, none⟩ = some (.int .u64 (f.num : Int)) := cell_of_row _ _ _ _ _ _ R0
  have c3 : (w.alloc (.cells #[.int .i64 f.no, .int .i64 f.ty, .int .u64 (f.num : Int), u] 38)).cell? ⟨w.heap.size, 3, none⟩ = some (u) := cell_of_row _ _ _ _ _ _ R0
  go_enter Try.func30, Try.ntmps30
  subst hue
  clear R0
  by_cases t2 : f.ty = 2
  · rw [if_pos t2] at hf2
    have q2 : (f.ty == 2) = true := by simpa using t2
    by_cases q : f.num = 0
    · have hd : decide (fits f) = true := decide_eq_true (hf2.2 q)
      have d2 : ((f.num : Int) == 0) = true := by simpa using q
      replace hd := hide hd
      replace q := hide q
      replace t2 := hide t2
      clear hf2
      go_wp2_with (fail)
      go_ret
      exact ⟨by rw [hd.out]; rfl, hw⟩
    · have hd : decide (fits f) = false := decide_eq_false (fun h => q (hf2.1 h))
      have d2 : ((f.num : Int) == 0) = false := by simpa using q
      replace hd := hide hd
      replace q := hide q
      replace t2 := hide t2
      clear hf2
      go_wp2_with (fail)
      go_ret
      exact ⟨by rw [hd.out]; rfl, hw⟩
  · rw [if_neg t2] at hf2
    have q2 : (f.ty == 2) = false := by simpa using t2
    by_cases q : f.dat = []
    · have hl : ((f.dat.length : Int) == 0) = true := by rw [q]; rfl
      by_cases t5 : f.ty = 5
      · have q5 : (f.ty == 5) = true := by simpa using t5
        by_cases qn : f.num ≤ 4294967295
        · have hd : decide (fits f) = true := decide_eq_true (hf2.2 ⟨q, fun _ => qn⟩)
          have d2 : decide ((f.num : Int) ≤ 4294967295) = true := by simp; omega
          replace hd := hide hd
          replace t5 := hide t5
          replace q := hide q
          clear hf2
          go_wp2_with (fail)
          go_ret
          exact ⟨by rw [hd.out]; rfl, by first | exact hw | (rw [t5.out] at hw; exact hw)⟩
        · have hd : decide (fits f) = false := decide_eq_false (fun h => qn ((hf2.1 h).2 t5))
          have d2 : decide ((f.num : Int) ≤ 4294967295) = false := by simp; omega
          replace hd := hide hd
          replace t5 := hide t5
          replace q := hide q
          clear hf2
          go_wp2_with (fail)
          go_ret
          exact ⟨by rw [hd.out]; rfl, by first | exact hw | (rw [t5.out] at hw; exact hw)⟩
      · have hd : decide (fits f) = true := decide_eq_true (hf2.2 ⟨q, fun h => absurd h t5⟩)
        have q5 : (f.ty == 5) = false := by simpa using t5
        replace hd := hide hd
        replace q := hide q
        clear hf2
        go_wp2_with (fail)
        go_ret
        exact ⟨by rw [hd.out]; rfl, hw⟩
    · have hd : decide (fits f) = false := decide_eq_false (fun h => q (hf2.1 h).1)
      have hl : ((f.dat.length : Int) == 0) = false := by
        have : f.dat.length ≠ 0 := fun h => q (List.eq_nil_of_length_eq_zero h)
        simp; omega
      replace hd := hide hd
      clear hf2 q
      go_wp2_with (fail)
      go_ret
      exact ⟨by rw [hd.out]; rfl, hw⟩
theorem by_rem (n : Nat) : (n : Int) % 256 = bv (BitVec.ofNat 8 (n % 256)) := by_mod n
set_option maxRecDepth 100000 in
set_option maxHeartbeats 2000000 in
theorem r_low (n k : Nat) (hn : n < 18446744073709551616) (hk : k ≤ 8) (w : World) : Calls Try.prog 45 #[.int .u64 (n : Int), .int .i64 (k : Int)] w fun e w' => ∃ u, e = .returned u ∧ Own w' w.heap.size u (fx k n) ∧ Below w.heap.size w w' := by
  have hO0 := own_nil w
  have hw0 : Below w.heap.size w (w.alloc (.cells #[] 5)) := (Below.refl _ _).alloc (Nat.le_refl _) _
  go_enter Try.func45, Try.ntmps45
  go_wp2_with (fail)
  generalize w.alloc (.cells #[] 5) = w0 at *
  go_loopw [0, 5, 6] (fun m s i wr => ∃ (j : Nat) (ao : Option Addr) (ac : Nat), j ≤ k ∧ i = .int .i64 (j : Int) ∧ m = .int .u64 ((n / 256 ^ j : Nat) : Int) ∧ s = .slice ao j ac ∧ Own wr w.heap.size (.slice ao j ac) (fx j n) ∧ Below w.heap.size w wr) (fun _ _ i _ => k - (intOf i).toNat)
  case atStart => exact ⟨0, _, _, by omega, rfl, by rw [Nat.pow_zero, Nat.div_one], rfl, hO0, hw0⟩
  case round =>
    clear hO0 hw0
    obtain ⟨j, ao, ac, hj, rfl, rfl, rfl, hO, hw⟩ := hrel
    have hws := hw.size
    by_cases hlt : j < k
    · have hd : decide ((j : Int) < (k : Int)) = true := by simp; omega
      have hsn : Hid (fx (j + 1) n = fx j n ++ [BitVec.ofNat 8 (n / 256 ^ j % 256)]) := hide (fx_snoc j n)
      have hdv : Hid (n / 256 ^ (j + 1) = n / 256 ^ j / 256) := hide (by rw [Nat.div_div_eq_div_mul, Nat.pow_succ])
      have hml : n / 256 ^ j < 18446744073709551616 := Nat.lt_of_le_of_lt (Nat.div_le_self _ _) hn
      have hfl : (fx j n).length = j := fx_len j n
      replace hfl := hide hfl
      generalize n / 256 ^ j = M at *
      go_wp2_with (at_builtin; suffices h9 : True ∧ _ from h9.2)
      refine ⟨trivial, ?_⟩
      refine wpList_append_B rfl (.tmp 13) (.tmp 17) rfl w.heap.size _ (fx j n) rfl (own_alloc hO _) _ [BitVec.ofNat 8 (M % 256)] rfl (by first | (rw [by_rem]; exact bys_one _ _)) (by rw [hfl.out]; simp only [List.length_singleton]; omega) (by rw [size_alloc1]; omega) ?_
      intro v2 w2 hO2 hgr
      have hw2 : Below w.heap.size w w2 := (hw.alloc (by omega) _).grown hgr (by rw [size_alloc1]; omega) (own_low hO)
      rw [← hsn.out] at hO2
      obtain ⟨ao2, ac2, hv2⟩ := slen_own hO2
      rw [fx_len] at hv2
      subst hv2
      clear hgr hO hw
      go_wp2_with (fail)
      refine ⟨⟨j + 1, ao2, ac2, by omega, by go_num, by rw [hdv.out]; rfl, rfl, hO2, hw2⟩, ?_⟩
      simp [intOf]; omega
    · obtain rfl : j = k := by omega
      have hd : decide ((j : Int) < (j : Int)) = false := by simp
      go_wp2_with (fail)
      go_ret
      exact ⟨_, rfl, hO, hw⟩
set_option maxHeartbeats 4000000 in
theorem r_one (f : Fd) (w : World) (ao : Option Addr) (cap : Nat) (hu : BysB w (.slice ao f.dat.length cap) f.dat) (hf : Fok f) (h0 : 0 ≤ f.no) (h1 : f.no ≤ 536870911) (hk : known f.ty) : Calls Try.prog 31 #[fagg f (.slice ao f.dat.length cap)] w fun e w' => ∃ x, e = .returned x ∧ Own w' w.heap.size x (fby f) ∧ Below w.heap.size w w' := by
  have ht := known_lt hk
  have hhl := Fok.hd h1 ht.2
  have hten := en_ten hhl
  have hvl : fvl f = if f.ty = 0 then en f.num else if f.ty = 1 then fx 8 f.num else if f.ty = 5 then fx 4 f.num else itm f.dat := rfl
  have hfb : fby f = en (fhd f) ++ fvl f := rfl
  have hfd := hf.2.1
  have hnum := hf.1
  have hhd : 8 * f.no + f.ty = ((fhd f : Nat) : Int) := by unfold fhd; omega
  have ht9 := en_ten hnum
  obtain ⟨u, hue⟩ : ∃ u, Value.slice ao f.dat.length cap = u := ⟨_, rfl⟩
  rw [hue]
  unfold fagg
  have R0 := hp1_0 w (.cells #[.int .i64 f.no, .int .i64 f.ty, .int .u64 (f.num : Int), u] 38)
  have hw : Below w.heap.size w (w.alloc (.cells #[.int .i64 f.no, .int .i64 f.ty, .int .u64 (f.num : Int), u] 38)) := (Below.refl _ _).alloc (Nat.le_refl _) _
  have c0 : (w.alloc (.cells #[.int .i64 f.no, .int .i64 f.ty, .int .u64 (f.num : Int), u] 38)).cell? ⟨w.heap.size, 0, none⟩ = some (.int .i64 f.no) := cell_of_row _ _ _ _ _ _ R0
  have c1 : (w.alloc (.cells #[.int .i64 f.no, .int .i64 f.ty, .int .u64 (f.num : Int), u] 38)).cell? ⟨w.heap.size, 1, none⟩ = some (.int .i64 f.ty) := cell_of_row _ _ _ _ _ _ R0
  have c2 : (w.alloc (.cells #[.int .i64 f.no, .int .i64 f.ty, .int .u64 (f.num : Int), u] 38)).cell? ⟨w.heap.size, 2, none⟩ = some (.int .u64 (f.num : Int)) := cell_of_row _ _ _ _ _ _ R0
  have c3 : (w.alloc (.cells #[.int .i64 f.no, .int .i64 f.ty, .int .u64 (f.num : Int), u] 38)).cell? ⟨w.heap.size, 3, none⟩ = some (u) := cell_of_row _ _ _ _ _ _ R0
  go_enter Try.func31, Try.ntmps31
  have cP := r_put [] (fhd f) hhl (w.alloc (.cells #[.int .i64 f.no, .int .i64 f.ty, .int .u64 (f.num : Int), u] 38)) _ (bys_nil _)
  rw [List.nil_append] at cP
  have hm1 : 8 * f.no < 18446744073709551616 := by omega
  have hm2 : 0 ≤ 8 * f.no := by omega
  have l0 := lt_of_row R0
  generalize hE : en (fhd f) = E at *
  go_wp2_with (fail)
  generalize (w.alloc (.cells #[.int .i64 f.no, .int .i64 f.ty, .int .u64 (f.num : Int), u] 38)) = w0 at *
  refine cP.mono ?_
  rintro e_ w1 ⟨r, rfl, hr, hb⟩
  have s0 := hw.size
  have sw := hb.size
  replace hw := hw.trans (hb.mono hw.size)
  replace c1 := (hb.cell (p := ⟨w.heap.size, 1, none⟩) l0).trans c1
  replace c2 := (hb.cell (p := ⟨w.heap.size, 2, none⟩) l0).trans c2
  replace c3 := (hb.cell (p := ⟨w.heap.size, 3, none⟩) l0).trans c3
  clear hb cP R0 c0
  have hrB := hr.bysB (by omega)
  obtain ⟨ro, rc, hre⟩ := slen_own hr
  unfold known at hk
  rcases hk with t | t | t | t
  · rw [t] at c1
    rw [if_pos t] at hvl
    have cX := r_put E f.num hnum w1 r hrB
    have hfin : Hid (fby f = E ++ en f.num) := hide (by rw [hfb, hvl])
    subst hre
    clear hvl hfb t hr hrB
    generalize hZ : en f.num = Z at *
    go_wp2_with (fail)
    refine cX.mono ?_
    rintro e_ w2 ⟨x, rfl, hx, hb⟩
    replace hw := hw.trans (hb.mono hw.size)
    clear hb cX
    go_wp2_with (fail)
    go_ret
    exact ⟨x, rfl, by rw [hfin.out]; exact own_down hx (by omega), hw⟩
  · rw [t] at c1
    rw [if_neg (by omega), if_pos t] at hvl
    have cX := r_low f.num 8 hnum (by omega) w1
    have hfin : Hid (fby f = E ++ fx 8 f.num) := hide (by rw [hfb, hvl])
    have hxl : (fx 8 f.num).length ≤ 8 := by rw [fx_len]; omega
    subst hre
    clear hvl hfb t hrB
    generalize hZ : fx 8 f.num = Z at *
    go_wp2_with (fail)
    refine cX.mono ?_
    rintro e_ w2 ⟨x, rfl, hx, hb⟩
    have s2 := hb.size
    replace hw := hw.trans (hb.mono hw.size)
    replace hr := hr.keep hb
    have hxB := hx.bysB (by omega)
    clear hb cX
    go_wp2_with (at_builtin; suffices h9 : True ∧ _ from h9.2)
    refine ⟨trivial, ?_⟩
    refine wpList_append_B rfl (.tmp 23) (.tmp 26) rfl w0.heap.size _ E rfl hr _ Z rfl hxB (by omega) (by omega) ?_
    intro v3 w3 hO3 hgr
    have hw3 := hw.grown hgr (by omega) (fun k e => by have := own_low hr k e; omega)
    clear hgr
    go_wp2_with (fail)
    go_ret
    exact ⟨v3, rfl, by rw [hfin.out]; exact own_down hO3 (by omega), hw3⟩
  · rw [t] at c1
    rw [if_neg (by omega), if_neg (by omega), if_neg (by omega)] at hvl
    have cX := r_put E f.dat.length (by omega) w1 r hrB
    have hfin : Hid (fby f = E ++ en f.dat.length ++ f.dat) := hide (by rw [hfb, hvl, itm, List.append_assoc])
    have hten3 := en_ten (n := f.dat.length) (by omega)
    subst hre
    clear hvl hfb t hrB hr
    subst hue
    generalize hZ : en f.dat.length = Z at *
    go_wp2_with (fail)
    refine cX.mono ?_
    rintro e_ w2 ⟨x, rfl, hx, hb⟩
    have s2 := hb.size
    replace hw := hw.trans (hb.mono hw.size)
    replace c3 := (hb.cell (p := ⟨w.heap.size, 3, none⟩) (show w.heap.size < w1.heap.size by omega)).trans c3
    have hE2 := hu.keep hw
    obtain ⟨xo, xc, hxe⟩ := slen_own hx
    have hll : (E ++ Z).length = E.length + Z.length := List.length_append
    clear hb cX
    generalize hEZ : E ++ Z = EZ at *
    subst hxe
    replace hll := hide hll
    go_wp2_with (at_builtin; suffices h9 : True ∧ _ from h9.2)
    refine ⟨trivial, ?_⟩
    refine wpList_append_B rfl (.tmp 41) (.tmp 43) rfl w1.heap.size _ EZ rfl hx _ f.dat rfl hE2 (by have := hll.out; omega) s2 ?_
    intro v3 w3 hO3 hgr
    have hw3 := hw.grown hgr (by omega) (fun k e => by have := own_low hx k e; omega)
    clear hgr
    go_wp2_with (fail)
    go_ret
    exact ⟨v3, rfl, by rw [hfin.out]; exact own_down hO3 (by omega), hw3⟩
  · rw [t] at c1
    rw [if_neg (by omega), if_neg (by omega), if_pos t] at hvl
    have cX := r_low f.num 4 hnum (by omega) w1
    have hfin : Hid (fby f = E ++ fx 4 f.num) := hide (by rw [hfb, hvl])
    have hxl : (fx 4 f.num).length ≤ 8 := by rw [fx_len]; omega
    subst hre
    clear hvl hfb t hrB
    generalize hZ : fx 4 f.num = Z at *
    go_wp2_with (fail)
    refine cX.mono ?_
    rintro e_ w2 ⟨x, rfl, hx, hb⟩
    have s2 := hb.size
    replace hw := hw.trans (hb.mono hw.size)
    replace hr := hr.keep hb
    have hxB := hx.bysB (by omega)
    clear hb cX
    go_wp2_with (at_builtin; suffices h9 : True ∧ _ from h9.2)
    refine ⟨trivial, ?_⟩
    refine wpList_append_B rfl (.tmp 30) (.tmp 33) rfl w0.heap.size _ E rfl hr _ Z rfl hxB (by omega) (by omega) ?_
    intro v3 w3 hO3 hgr
    have hw3 := hw.grown hgr (by omega) (fun k e => by have := own_low hr k e; omega)
    clear hgr
    go_wp2_with (fail)
    go_ret
    exact ⟨v3, rfl, by rw [hfin.out]; exact own_down hO3 (by omega), hw3⟩
end Go.Proofs.Ytohjcdmhejmnfaa
