import Derived.Test.YtleeadbceljfbaaGreatDoorCExf
import Derived.OwnWalk
import Derived.Deep.Cut
import Derived.Deep.RegionHeld3
namespace Go.Proofs.YtleeadbceljfbaaGreatDoor
set_option maxRecDepth 100000
open Go Go.RowKit Go.Sort
attribute [local go_sem] setCell_drewN alloc_drewN
theorem quo_bigS {m i j : Nat} (h8 : 8 ≤ m) (h : i < j) : 15 < m * 2 ^ j / 2 ^ i := by
 have hp : 0 < 2 ^ i := Nat.pow_pos (by decide)
 rw [show j = (j - i) + i by omega, Nat.pow_add, ← Nat.mul_assoc, Nat.mul_div_cancel _ hp]
 have h1 : 2 ^ 1 ≤ 2 ^ (j - i) := Nat.pow_le_pow_right (by decide) (by omega)
 have := Nat.mul_le_mul h8 h1
 omega
set_option maxRecDepth 100000 in
set_option maxHeartbeats 8000000 in
theorem l_powered (j : Nat) (hj : 2 ^ j ≤ 1152921504606846976) : Gives 15 #[.int .i64 ((2 ^ j : Nat) : Int)] (.bool true) := by
 intro w
 have pos : ∀ i : Nat, 0 < 2 ^ i := fun i => Nat.pow_pos (by decide)
 have le : ∀ i, i ≤ j → 2 ^ i ≤ 1152921504606846976 := fun i hi => Nat.le_trans (Nat.pow_le_pow_right (by decide) hi) hj
 obtain ⟨x, hx⟩ : ∃ x, 2 ^ j = x := ⟨_, rfl⟩
 rw [hx]
 replace hx := hide hx
 replace pos := hide pos
 replace le := hide le
 clear hj
 go_enter Tryz.func15, Tryz.ntmps15
 go_wp2
 go_loopw [0] (fun u wr => ∃ i k : Nat, i ≤ j ∧ k = 2 ^ i ∧ u = .int .i64 (k : Int) ∧ wr = w) (fun u _ => (intOf u).toNat)
 case atStart => exact ⟨j, x, by omega, hx.out.symm, rfl, rfl⟩
 case round =>
   obtain ⟨i, k, hi, hk, rfl, rfl⟩ := hrel
   cases i with
   | zero =>
     have hk1 : k = 1 := hk
     subst hk1
     clear hk hi
     go_wp2
     go_ret
     exact ⟨rfl, Below.refl _ _⟩
   | succ i =>
     obtain ⟨c, hc⟩ : ∃ c, 2 ^ i = c := ⟨_, rfl⟩
     have hk2 : k = 2 * c := by rw [hk, Nat.pow_succ', hc]
     have hc1 := pos.out i
     have hc2 := le.out (i + 1) hi
     rw [← hk] at hc2
     rw [hc] at hc1
     subst hk2
     have hq : (((2 * c : Nat) : Int)).tdiv 2 = (c : Int) := by rw [Int.tdiv_eq_ediv_of_nonneg (by omega)]; omega
     have hr : (((2 * c : Nat) : Int)).tmod 2 = 0 := by rw [Int.tmod_eq_emod_of_nonneg (by omega)]; omega
     have hg : decide ((1 : Int) < ((2 * c : Nat) : Int)) = true := decide_eq_true (by omega)
     replace hk := hide hk
     replace hc := hide hc
     have hi2 : i ≤ j := by omega
     generalize hz : ((2 * c : Nat) : Int) = z at *
     have hz2 := hide hz
     clear hz
     go_wp2
     refine ⟨⟨i, c, hi2, hc.out.symm, by go_num, trivial⟩, ?_⟩
     have := hz2.out
     simp [intOf]
     omega
theorem bkd_j {n B : Nat} (hn : 64 ≤ n) (hB : bkd 4 n = B) : ∃ m j, B = m * 2 ^ j ∧ 8 ≤ m ∧ m ≤ 15 ∧ 3 ≤ j ∧ (B = 64 ∨ (m = 8 ∧ B - 2 ^ j / 2 < n) ∨ (m ≠ 8 ∧ B - 2 ^ j < n)) := by
 obtain ⟨⟨h64, m, j, e, m1, m2⟩, g1, l1⟩ := bkd_lst 4 n (by decide) (by decide)
 rw [hB] at h64 e g1 l1
 have m1' : 8 ≤ m := m1
 have m2' : m < 16 := m2
 have hj : 3 ≤ j := by
   rcases Nat.lt_or_ge j 3 with q | q
   · have h2 : 2 ^ j ≤ 2 ^ 2 := Nat.pow_le_pow_right (by decide) (by omega)
     have := Nat.mul_le_mul (show m ≤ 15 by omega) h2
     omega
   · exact q
 refine ⟨m, j, e, m1', by omega, hj, ?_⟩
 by_cases h6 : B = 64
 · exact .inl h6
 · refine .inr ?_
   by_cases hm : m = 8
   · subst hm
     refine .inl ⟨rfl, ?_⟩
     have e1 : 2 ^ j = 2 * 2 ^ (j - 1) := by rw [← Nat.pow_succ', show (j - 1).succ = j by omega]
     have l2 : 64 ≤ 15 * 2 ^ (j - 1) → n ≤ 15 * 2 ^ (j - 1) → B ≤ 15 * 2 ^ (j - 1) := fun a c => l1 _ ⟨a, 15, j - 1, rfl, by decide, by decide⟩ c
     have e4 : 4 ≤ 2 ^ (j - 1) := by
       have : 2 ^ 2 ≤ 2 ^ (j - 1) := Nat.pow_le_pow_right (by decide) (by omega)
       exact this
     generalize 2 ^ (j - 1) = u at *
     rw [e1] at e ⊢
     by_cases hb : 64 ≤ 15 * u
     · have := l2 hb
       omega
     · omega
   · refine .inr ⟨hm, ?_⟩
     have e2 : B = (m - 1) * 2 ^ j + 2 ^ j := by rw [e, ← Nat.succ_mul, Nat.succ_eq_add_one, Nat.sub_add_cancel (by omega)]
     have e3 : 8 * 2 ^ j ≤ (m - 1) * 2 ^ j := Nat.mul_le_mul_right _ (by omega)
     have e4 : 8 ≤ 2 ^ j := by
       have : 2 ^ 3 ≤ 2 ^ j := Nat.pow_le_pow_right (by decide) hj
       exact this
     have l2 : 64 ≤ (m - 1) * 2 ^ j → n ≤ (m - 1) * 2 ^ j → B ≤ (m - 1) * 2 ^ j := fun a c => l1 _ ⟨a, m - 1, j, rfl, by show 8 ≤ m - 1; omega, by show m - 1 < 2 * 8; omega⟩ c
     generalize (m - 1) * 2 ^ j = p at *
     generalize 2 ^ j = u at *
     have := l2 (by omega)
     omega
theorem bkd_few4 {n : Nat} (h : n ≤ 64) : bkd 4 n = 64 := bkd_few (by decide) (by decide) bkt_648 h
theorem bkd_j2 {n B : Nat} (hB : bkd 4 n = B) : ∃ m j, B = m * 2 ^ j ∧ 8 ≤ m ∧ m ≤ 15 ∧ 3 ≤ j ∧ (B = 64 ∨ (m = 8 ∧ B - 2 ^ j / 2 < n) ∨ (m ≠ 8 ∧ B - 2 ^ j < n)) := by
 rcases Nat.lt_or_ge n 64 with q | q
 · have : B = 64 := by rw [← hB]; exact bkd_few4 (by omega)
   subst this
   exact ⟨8, 3, rfl, by decide, by decide, by decide, .inl rfl⟩
 · exact bkd_j q hB
theorem bkd_p {n A : Nat} (hA : bkd 1 n = A) : ∃ j, A = 2 ^ j ∧ (A = 64 ∨ A / 2 < n) := by
 obtain ⟨⟨h64, m, j, e, m1, m2⟩, g1, l1⟩ := bkd_lst 1 n (by decide) (by decide)
 rw [hA] at h64 e g1 l1
 have hm : m = 1 := by omega
 subst hm
 rw [Nat.one_mul] at e
 refine ⟨j, e, ?_⟩
 by_cases h6 : A = 64
 · exact .inl h6
 · refine .inr ?_
   have hj : 0 < j := by
     rcases Nat.eq_zero_or_pos j with rfl | hj
     · omega
     · exact hj
   have hj6 : 7 ≤ j := by
     rcases Nat.lt_or_ge j 7 with q | q
     · have : 2 ^ j ≤ 2 ^ 6 := Nat.pow_le_pow_right (by decide) (by omega)
       omega
     · exact q
   have e1 : 2 ^ j = 2 * 2 ^ (j - 1) := by rw [← Nat.pow_succ', show (j - 1).succ = j by omega]
   have e4 : 64 ≤ 2 ^ (j - 1) := by
     have : 2 ^ 6 ≤ 2 ^ (j - 1) := Nat.pow_le_pow_right (by decide) (by omega)
     exact this
   have hb : Bkt (2 ^ (1 - 1)) (2 ^ (j - 1)) := ⟨e4, 1, j - 1, by omega, by decide, by decide⟩
   have := l1 _ hb
   rw [e1] at e
   generalize 2 ^ (j - 1) = u at *
   omega
set_option maxRecDepth 100000 in
set_option maxHeartbeats 8000000 in
theorem steps10_any (n : Int) (w : World) (hE : Ety w) : Calls Tryz.prog 4 #[.int .i64 n] w fun e w' => e = .returned (.bool true) ∧ Below w.heap.size w w' := by
 have hE1 := hide (fun V (h : Below w.heap.size w V) => hE.keep h rfl)
 have hL := hide (fun V (h : Ety V) => l_lives V h)
 have hw : Below w.heap.size w w := Below.refl _ _
 clear hE
 go_enter Tryz.func4, Tryz.ntmps4
 go_wp2_with (fail)
 refine (hL.out _ (hE1.out _ hw)).mono ?_
 rintro e_ w1 ⟨rfl, hb⟩
 replace hw := Below.after hw hb
 clear hb
 by_cases n1 : n < 0
 · go_wp2_with (fail)
   refine (hL.out _ (hE1.out _ hw)).mono ?_
   rintro e_ w2 ⟨rfl, hb⟩
   replace hw := Below.after hw hb
   clear hb
   go_wp2_with (fail)
   go_ret
   exact ⟨rfl, hw⟩
 · by_cases n2 : 1048576 < n
   · go_wp2_with (fail)
     refine (hL.out _ (hE1.out _ hw)).mono ?_
     rintro e_ w2 ⟨rfl, hb⟩
     replace hw := Below.after hw hb
     clear hb
     go_wp2_with (fail)
     go_ret
     exact ⟨rfl, hw⟩
   · clear hL
     obtain ⟨k, rfl⟩ := Int.eq_ofNat_of_zero_le (show 0 ≤ n by omega)
     have hk : k ≤ 1048576 := by omega
     obtain ⟨A, hA⟩ : ∃ A, bkd 1 (4 + k) = A := ⟨_, rfl⟩
     obtain ⟨B0, hBB⟩ : ∃ A, bkd 4 (4 + k) = A := ⟨_, rfl⟩
     have f5 := bkd_64 4 (4 + k) (by decide) (by decide)
     have f6 := bkd_le 1 (4 + k) (by decide)
     have f7 := bkd_le 4 (4 + k) (by decide)
     have f8 := bkd_64 1 (4 + k) (by decide) (by decide)
     obtain ⟨ja, hAe, hAs⟩ := bkd_p hA
     obtain ⟨m, j, hBe, hm8, hm15, hj3, hfin⟩ := bkd_j2 hBB
     rw [hA] at f6 f8
     rw [hBB] at f5 f7
     have u5 : decide ((B0 : Int) < 64) = false := decide_eq_false (by omega)
     have u6 : A ≤ 2097300 := by omega
     have u7 : B0 ≤ 2097300 := by omega
     have cW := l_powered ja (by rw [← hAe]; omega)
     rw [← hAe] at cW
     have hAd : ((A : Int)).tdiv 2 = ((A / 2 : Nat) : Int) := by rw [Int.tdiv_eq_ediv_of_nonneg (by omega)]; omega
     have hA2 : A / 2 ≤ A := Nat.div_le_self _ _
     have g64 : decide ((64 : Int) < (A : Int)) = true ∧ decide ((k : Int) + 4 ≤ ((A / 2 : Nat) : Int)) = false ∨ decide ((64 : Int) < (A : Int)) = false := by
       rcases hAs with h | h
       · exact .inr (decide_eq_false (by omega))
       · by_cases h6 : 64 < A
         · exact .inl ⟨decide_eq_true (by omega), decide_eq_false (by omega)⟩
         · exact .inr (decide_eq_false (by omega))
     have quo : ∀ i, i ≤ j → (decide (((B0 / 2 ^ i : Nat) : Int) > 15) = decide (i < j)) := fun i hi => by
       rw [hBe]
       rcases Nat.lt_or_ge i j with q | q
       · rw [decide_eq_true q, decide_eq_true]
         have := quo_bigS hm8 q
         omega
       · obtain rfl : i = j := by omega
         rw [decide_eq_false (Nat.lt_irrefl i), decide_eq_false]
         rw [Nat.mul_div_cancel _ (Nat.pow_pos (by decide))]
         omega
     have pos : ∀ i : Nat, 0 < 2 ^ i := fun i => Nat.pow_pos (by decide)
     have dbl : ∀ i, i < j → 2 * 2 ^ i ≤ 2 ^ j := fun i hi => by
       rw [← Nat.pow_succ']
       exact Nat.pow_le_pow_right (by decide) (by omega)
     have hjB : 2 ^ j ≤ B0 := by rw [hBe]; exact Nat.le_mul_of_pos_left _ (by omega)
     replace hjB := hide hjB
     replace hA := hide hA
     replace hBB := hide hBB
     replace hAe := hide hAe
     replace hAs := hide hAs
     replace hBe := hide hBe
     replace hfin := hide hfin
     replace hj3 := hide hj3
     replace quo := hide quo
     replace pos := hide pos
     replace dbl := hide dbl
     replace cW := hide cW
     clear f5 f6 f7 f8
     have cX := hide ((a_Bucket 1 1 rfl (by decide) (k : Int)).at w1)
     rw [bke_yes (v := 1) rfl hk, bko_yes (v := 1) rfl hk] at cX
     rw [show bkd (dg 1) (4 + k) = A from hA.out] at cX
     go_wp2_with (fail)
     refine cX.out.mono ?_
     rintro e_ w2 ⟨rfl, hb⟩
     replace hw := Below.after hw hb
     clear cX hb
     have cX := hide ((a_Bucket 2 2 rfl (by decide) (k : Int)).at w2)
     rw [bke_yes (v := 2) rfl hk, bko_yes (v := 2) rfl hk] at cX
     rw [show bkd (dg 2) (4 + k) = B0 from hBB.out] at cX
     go_wp2_with (fail)
     refine cX.out.mono ?_
     rintro e_ w3 ⟨rfl, hb⟩
     replace hw := Below.after hw hb
     clear cX hb
     generalize A / 2 = A5 at *
     go_wp2_with (fail)
     refine (cW.out w3).mono ?_
     rintro e_ w4 ⟨rfl, hb⟩
     replace hw := Below.after hw hb
     clear hb cW
     rcases g64 with ⟨g1, g2⟩ | g1
     · go_wp2_with (fail)
       go_loopw [7] (fun u wr => ∃ i c : Nat, 3 ≤ i ∧ i ≤ j ∧ c = 2 ^ i ∧ u = .int .i64 (c : Int) ∧ wr = w4) (fun u _ => 2 ^ j - (intOf u).toNat)
       case atStart => exact ⟨3, 8, by omega, hj3.out, rfl, rfl, rfl⟩
       case round =>
         obtain ⟨i, c, hi3, hi, hc, rfl, rfl⟩ := hrel
         have q1 := quo.out i hi
         have q2 := pos.out i
         have q3 := dbl.out i
         rw [← hc] at q1 q2 q3
         have hc' := hide hc
         have hz : ¬ (c : Int) = 0 := by omega
         have hdv : ((B0 : Int)).tdiv (c : Int) = ((B0 / c : Nat) : Int) := by rw [Int.tdiv_eq_ediv_of_nonneg (by omega), Int.natCast_ediv]
         have hdl : B0 / c ≤ B0 := Nat.div_le_self _ _
         rcases Nat.lt_or_ge i j with cc | cc
         · rw [decide_eq_true cc] at q1
           replace q3 := q3 cc
           generalize B0 / c = q at *
           clear hc
           obtain ⟨x, hx⟩ : ∃ x, 2 ^ j = x := ⟨_, rfl⟩
           have hxB : x ≤ B0 := by rw [← hx]; exact hjB.out
           rw [hx] at q3 ⊢
           have hx2 := hide hx
           clear hx
           go_wp2_with (fail)
           refine ⟨⟨i + 1, 2 * c, by omega, by omega, by rw [Nat.pow_succ', hc'.out], by go_num, trivial⟩, ?_⟩
           simp [intOf]; omega
         · have hij : i = j := by omega
           have hcj : c = 2 ^ j := by rw [hc, hij]
           rw [decide_eq_false (show ¬ i < j by omega)] at q1
           have hbm : B0 / c = m := by rw [hcj, hBe.out, Nat.mul_div_cancel _ (pos.out j)]
           have hrm : ((B0 : Int)).tmod (c : Int) = 0 := by
             rw [Int.tmod_eq_emod_of_nonneg (by omega), hBe.out, ← hcj]
             rw [Int.natCast_mul, Int.mul_emod_left]
           have hcB : c ≤ B0 := by rw [hBe.out, ← hcj]; exact Nat.le_mul_of_pos_left _ (by omega)
           have hc2 : ((c : Int)).tdiv 2 = ((c / 2 : Nat) : Int) := by rw [Int.tdiv_eq_ediv_of_nonneg (by omega)]; omega
           have hf := hfin.out
           rw [← hcj] at hf
           rw [hbm] at hdv q1
           clear hc hdl q3 hcj
           have hm8' : decide ((8 : Int) ≤ (m : Int)) = true := decide_eq_true (by omega)
           by_cases hm : m = 8
           · have e8 : ((m : Int) == 8) = true := by rw [hm]; rfl
             have hcc : c / 2 ≤ c := Nat.div_le_self _ _
             rcases hf with hf | hf | hf
             · have e64 : ((B0 : Int) == 64) = true := by rw [hf]; rfl
               replace hm := hide hm
               replace hf := hide hf
               replace hbm := hide hbm
               generalize c / 2 = c5 at *
               go_wp2_with (fail)
               go_ret
               exact ⟨rfl, hw⟩
             · have e64 : decide (((B0 : Int) - ((c / 2 : Nat) : Int)) < (k : Int) + 4) = true := decide_eq_true (by have := hf.2; omega)
               replace hm := hide hm
               replace hf := hide hf
               replace hbm := hide hbm
               generalize c / 2 = c5 at *
               rcases h4 : ((B0 : Int) == 64)
               · go_wp2_with (fail)
                 go_ret
                 exact ⟨rfl, hw⟩
               · go_wp2_with (fail)
                 go_ret
                 exact ⟨rfl, hw⟩
             · exact absurd hm hf.1
           · have e8 : ((m : Int) == 8) = false := by
               have : (m : Int) ≠ 8 := by omega
               simpa using this
             rcases hf with hf | hf | hf
             · have e64 : ((B0 : Int) == 64) = true := by rw [hf]; rfl
               replace hm := hide hm
               replace hf := hide hf
               replace hbm := hide hbm
               go_wp2_with (fail)
               go_ret
               exact ⟨rfl, hw⟩
             · exact absurd hf.1 hm
             · have e64 : decide (((B0 : Int) - (c : Int)) < (k : Int) + 4) = true := decide_eq_true (by have := hf.2; omega)
               replace hm := hide hm
               replace hf := hide hf
               replace hbm := hide hbm
               rcases h4 : ((B0 : Int) == 64)
               · go_wp2_with (fail)
                 go_ret
                 exact ⟨rfl, hw⟩
               · go_wp2_with (fail)
                 go_ret
                 exact ⟨rfl, hw⟩
     · go_wp2_with (fail)
       go_loopw [7] (fun u wr => ∃ i c : Nat, 3 ≤ i ∧ i ≤ j ∧ c = 2 ^ i ∧ u = .int .i64 (c : Int) ∧ wr = w4) (fun u _ => 2 ^ j - (intOf u).toNat)
       case atStart => exact ⟨3, 8, by omega, hj3.out, rfl, rfl, rfl⟩
       case round =>
         obtain ⟨i, c, hi3, hi, hc, rfl, rfl⟩ := hrel
         have q1 := quo.out i hi
         have q2 := pos.out i
         have q3 := dbl.out i
         rw [← hc] at q1 q2 q3
         have hc' := hide hc
         have hz : ¬ (c : Int) = 0 := by omega
         have hdv : ((B0 : Int)).tdiv (c : Int) = ((B0 / c : Nat) : Int) := by rw [Int.tdiv_eq_ediv_of_nonneg (by omega), Int.natCast_ediv]
         have hdl : B0 / c ≤ B0 := Nat.div_le_self _ _
         rcases Nat.lt_or_ge i j with cc | cc
         · rw [decide_eq_true cc] at q1
           replace q3 := q3 cc
           generalize B0 / c = q at *
           clear hc
           obtain ⟨x, hx⟩ : ∃ x, 2 ^ j = x := ⟨_, rfl⟩
           have hxB : x ≤ B0 := by rw [← hx]; exact hjB.out
           rw [hx] at q3 ⊢
           have hx2 := hide hx
           clear hx
           go_wp2_with (fail)
           refine ⟨⟨i + 1, 2 * c, by omega, by omega, by rw [Nat.pow_succ', hc'.out], by go_num, trivial⟩, ?_⟩
           simp [intOf]; omega
         · have hij : i = j := by omega
           have hcj : c = 2 ^ j := by rw [hc, hij]
           rw [decide_eq_false (show ¬ i < j by omega)] at q1
           have hbm : B0 / c = m := by rw [hcj, hBe.out, Nat.mul_div_cancel _ (pos.out j)]
           have hrm : ((B0 : Int)).tmod (c : Int) = 0 := by
             rw [Int.tmod_eq_emod_of_nonneg (by omega), hBe.out, ← hcj]
             rw [Int.natCast_mul, Int.mul_emod_left]
           have hcB : c ≤ B0 := by rw [hBe.out, ← hcj]; exact Nat.le_mul_of_pos_left _ (by omega)
           have hc2 : ((c : Int)).tdiv 2 = ((c / 2 : Nat) : Int) := by rw [Int.tdiv_eq_ediv_of_nonneg (by omega)]; omega
           have hf := hfin.out
           rw [← hcj] at hf
           rw [hbm] at hdv q1
           clear hc hdl q3 hcj
           have hm8' : decide ((8 : Int) ≤ (m : Int)) = true := decide_eq_true (by omega)
           by_cases hm : m = 8
           · have e8 : ((m : Int) == 8) = true := by rw [hm]; rfl
             have hcc : c / 2 ≤ c := Nat.div_le_self _ _
             rcases hf with hf | hf | hf
             · have e64 : ((B0 : Int) == 64) = true := by rw [hf]; rfl
               replace hm := hide hm
               replace hf := hide hf
               replace hbm := hide hbm
               generalize c / 2 = c5 at *
               go_wp2_with (fail)
               go_ret
               exact ⟨rfl, hw⟩
             · have e64 : decide (((B0 : Int) - ((c / 2 : Nat) : Int)) < (k : Int) + 4) = true := decide_eq_true (by have := hf.2; omega)
               replace hm := hide hm
               replace hf := hide hf
               replace hbm := hide hbm
               generalize c / 2 = c5 at *
               rcases h4 : ((B0 : Int) == 64)
               · go_wp2_with (fail)
                 go_ret
                 exact ⟨rfl, hw⟩
               · go_wp2_with (fail)
                 go_ret
                 exact ⟨rfl, hw⟩
             · exact absurd hm hf.1
           · have e8 : ((m : Int) == 8) = false := by
               have : (m : Int) ≠ 8 := by omega
               simpa using this
             rcases hf with hf | hf | hf
             · have e64 : ((B0 : Int) == 64) = true := by rw [hf]; rfl
               replace hm := hide hm
               replace hf := hide hf
               replace hbm := hide hbm
               go_wp2_with (fail)
               go_ret
               exact ⟨rfl, hw⟩
             · exact absurd hf.1 hm
             · have e64 : decide (((B0 : Int) - (c : Int)) < (k : Int) + 4) = true := decide_eq_true (by have := hf.2; omega)
               replace hm := hide hm
               replace hf := hide hf
               replace hbm := hide hbm
               rcases h4 : ((B0 : Int) == 64)
               · go_wp2_with (fail)
                 go_ret
                 exact ⟨rfl, hw⟩
               · go_wp2_with (fail)
                 go_ret
                 exact ⟨rfl, hw⟩
end Go.Proofs.YtleeadbceljfbaaGreatDoor

