import Derived.Test.YtleeadbceljfbaaGreatDoorCExp
import Derived.OwnWalk
import Derived.Deep.Cut
import Derived.Deep.RegionHeld3
namespace Go.Proofs.YtleeadbceljfbaaGreatDoor
set_option maxRecDepth 100000
open Go Go.RowKit Go.Sort
attribute [local go_sem] setCell_drewN alloc_drewN
theorem bkt_18 {b : Nat} (h : Bkt 1 b) : Bkt 8 b := by
 obtain ⟨h64, m, j, e, m1, m2⟩ := h
 have hm : m = 1 := by omega
 subst hm
 have hj : 6 ≤ j := by
   rcases Nat.lt_or_ge j 6 with q | q
   · have : 2 ^ j ≤ 2 ^ 5 := Nat.pow_le_pow_right (by decide) (by omega)
     omega
   · exact q
 refine ⟨h64, 8, j - 3, ?_, by omega, by omega⟩
 rw [e, show j = (j - 3) + 3 by omega, Nat.add_sub_cancel, Nat.pow_add]
 omega
theorem bkd_41 (n : Nat) : bkd 4 n ≤ bkd 1 n := by
 obtain ⟨b1, g1, _⟩ := bkd_lst 1 n (by decide) (by decide)
 obtain ⟨_, _, l4⟩ := bkd_lst 4 n (by decide) (by decide)
 exact l4 _ (bkt_18 b1) g1
theorem bkd_mono {d n m : Nat} (hd : 0 < d) (h7 : d ≤ 7) (h : n ≤ m) : bkd d n ≤ bkd d m := by
 obtain ⟨b1, g1, _⟩ := bkd_lst d m hd h7
 obtain ⟨_, _, l4⟩ := bkd_lst d n hd h7
 exact l4 _ b1 (by omega)
theorem bkd_few {d n : Nat} (hd : 0 < d) (h7 : d ≤ 7) (hb : Bkt (2 ^ (d - 1)) 64) (h : n ≤ 64) : bkd d n = 64 := by
 obtain ⟨b1, g1, l1⟩ := bkd_lst d n hd h7
 have := l1 64 hb h
 have := b1.1
 omega
theorem bkt_641 : Bkt (2 ^ (1 - 1)) 64 := ⟨by decide, 1, 6, by decide, by decide, by decide⟩
theorem bkt_648 : Bkt (2 ^ (4 - 1)) 64 := ⟨by decide, 8, 3, by decide, by decide, by decide⟩
theorem bkd_1lt {n : Nat} (h : 64 ≤ n) : bkd 1 n < 2 * n := by
 obtain ⟨⟨h64, m, j, e, m1, m2⟩, g1, l1⟩ := bkd_lst 1 n (by decide) (by decide)
 have hm : m = 1 := by omega
 subst hm
 rcases Nat.lt_or_ge (bkd 1 n) (2 * n) with q | q
 · exact q
 · exfalso
   have hj : 0 < j := by
     rcases Nat.eq_zero_or_pos j with rfl | hj
     · omega
     · exact hj
   have e2 : bkd 1 n = 2 * 2 ^ (j - 1) := by rw [e, show j = (j - 1) + 1 by omega, Nat.pow_succ, Nat.add_sub_cancel]; omega
   have hb : Bkt (2 ^ (1 - 1)) (2 ^ (j - 1)) := ⟨by omega, 1, j - 1, by omega, by decide, by decide⟩
   have := l1 _ hb (by omega)
   omega
theorem bkd_4lt {n : Nat} (h : 64 ≤ n) : 8 * bkd 4 n < 9 * n := by
 obtain ⟨⟨h64, m, j, e, m1, m2⟩, g1, l1⟩ := bkd_lst 4 n (by decide) (by decide)
 have m1' : 8 ≤ m := m1
 have m2' : m < 16 := m2
 generalize hk : bkd 4 n = b at *
 rcases Nat.lt_or_ge (8 * b) (9 * n) with q | q
 · exact q
 · exfalso
   by_cases hm : m = 8
   · subst hm
     rcases Nat.eq_zero_or_pos j with rfl | hj
     · omega
     · have e2 : b = 16 * 2 ^ (j - 1) := by rw [e, show j = (j - 1) + 1 by omega, Nat.pow_succ, Nat.add_sub_cancel]; omega
       have l2 : 64 ≤ 15 * 2 ^ (j - 1) → n ≤ 15 * 2 ^ (j - 1) → b ≤ 15 * 2 ^ (j - 1) := fun a c => l1 _ ⟨a, 15, j - 1, rfl, by decide, by decide⟩ c
       generalize 2 ^ (j - 1) = u at *
       by_cases hb : 64 ≤ 15 * u
       · have := l2 hb
         omega
       · omega
   · have e2 : b = (m - 1) * 2 ^ j + 2 ^ j := by rw [e, ← Nat.succ_mul, Nat.succ_eq_add_one, Nat.sub_add_cancel (by omega)]
     have e3 : 8 * 2 ^ j ≤ (m - 1) * 2 ^ j := Nat.mul_le_mul_right _ (by omega)
     have e4 : 0 < 2 ^ j := Nat.two_pow_pos j
     have l2 : 64 ≤ (m - 1) * 2 ^ j → n ≤ (m - 1) * 2 ^ j → b ≤ (m - 1) * 2 ^ j := fun a c => l1 _ ⟨a, m - 1, j, rfl, by show 8 ≤ m - 1; omega, by show m - 1 < 2 * 8; omega⟩ c
     generalize (m - 1) * 2 ^ j = p at *
     generalize 2 ^ j = u at *
     by_cases hb : 64 ≤ p
     · have := l2 hb
       omega
     · omega
theorem bko_yes {v n : Nat} (hk : known10 v = true) (h : n ≤ 1048576) : bko v (n : Int) = ((bkd (dg v) (4 + n) : Nat) : Int) := by
 unfold bko
 rw [if_pos (bke_yes hk h), Int.toNat_natCast]
set_option maxRecDepth 100000 in
set_option maxHeartbeats 8000000 in
theorem fills_any (n more : Int) (h1 : -9223372036854775808 ≤ more) (h2 : more ≤ 9223372036854775807) (w : World) (hE : Ety w) : Calls Tryz.prog 3 #[.int .i64 n, .int .i64 more] w fun e w' => e = .returned (.bool true) ∧ Below w.heap.size w w' := by
 have hE1 := hide (fun V (h : Below w.heap.size w V) => hE.keep h rfl)
 have hL := hide (fun V (h : Ety V) => l_lives V h)
 have hw : Below w.heap.size w w := Below.refl _ _
 clear hE
 go_enter Tryz.func3, Tryz.ntmps3
 go_wp2_with (fail)
 refine (hL.out _ (hE1.out _ hw)).mono ?_
 rintro e_ w1 ⟨rfl, hb⟩
 replace hw := Below.after hw hb
 clear hb
 by_cases n1 : n < 0
 · go_wp2_with (fail)
   refine (hL.out _ (hE1.out _ hw)).mono ?_
   rintro e_ w2 ⟨rfl, hb⟩
   replace hw := Below.after hw hb
   clear hb
   go_wp2_with (fail)
   go_ret
   exact ⟨rfl, hw⟩
 · by_cases n2 : 1048576 < n
   · go_wp2_with (fail)
     refine (hL.out _ (hE1.out _ hw)).mono ?_
     rintro e_ w2 ⟨rfl, hb⟩
     replace hw := Below.after hw hb
     clear hb
     go_wp2_with (fail)
     go_ret
     exact ⟨rfl, hw⟩
   · clear hL
     obtain ⟨k, rfl⟩ := Int.eq_ofNat_of_zero_le (show 0 ≤ n by omega)
     have hk : k ≤ 1048576 := by omega
     obtain ⟨A, hA⟩ : ∃ A, bkd 1 (4 + k) = A := ⟨_, rfl⟩
     obtain ⟨B0, hBB⟩ : ∃ A, bkd 4 (4 + k) = A := ⟨_, rfl⟩
     have f1 := bkd_ge 1 (4 + k) (by decide) (by decide)
     have f2 := bkd_ge 4 (4 + k) (by decide) (by decide)
     have f3 := bkd_41 (4 + k)
     have f4 := bkd_64 1 (4 + k) (by decide) (by decide)
     have f5 := bkd_64 4 (4 + k) (by decide) (by decide)
     have f6 := bkd_le 1 (4 + k) (by decide)
     have f7 : 60 ≤ k → bkd 1 (4 + k) < 2 * (4 + k) := fun h => bkd_1lt (by omega)
     have f8 : 60 ≤ k → 8 * bkd 4 (4 + k) < 9 * (4 + k) := fun h => bkd_4lt (by omega)
     have f9 : k < 60 → bkd 1 (4 + k) = 64 ∧ bkd 4 (4 + k) = 64 := fun h => ⟨bkd_few (by decide) (by decide) bkt_641 (by omega), bkd_few (by decide) (by decide) bkt_648 (by omega)⟩
     rw [hA] at f1 f3 f4 f6 f7 f9
     rw [hBB] at f2 f3 f5 f8 f9
     have u1 : decide ((A : Int) < (k : Int) + 4) = false := decide_eq_false (by omega)
     have u2 : decide ((B0 : Int) < (k : Int) + 4) = false := decide_eq_false (by omega)
     have u3 : decide ((A : Int) < (B0 : Int)) = false := decide_eq_false (by omega)
     have u4 : decide ((A : Int) < 64) = false := decide_eq_false (by omega)
     have u5 : decide ((B0 : Int) < 64) = false := decide_eq_false (by omega)
     have u8 : B0 ≤ A := by omega
     have u6 : A ≤ 2097300 := by omega
     have u7 : B0 ≤ 2097300 := by omega
     replace hA := hide hA
     replace hBB := hide hBB
     clear f1 f2 f3 f4 f5 f6
     replace f7 := hide f7
     replace f8 := hide f8
     replace f9 := hide f9
     have cX := hide ((a_Bucket 1 1 rfl (by decide) (k : Int)).at w1)
     rw [bke_yes (v := 1) rfl hk, bko_yes (v := 1) rfl hk] at cX
     rw [show bkd (dg 1) (4 + k) = A from hA.out] at cX
     go_wp2_with (fail)
     refine cX.out.mono ?_
     rintro e_ w2 ⟨rfl, hb⟩
     replace hw := Below.after hw hb
     clear cX hb
     have cX := hide ((a_Bucket 2 2 rfl (by decide) (k : Int)).at w2)
     rw [bke_yes (v := 2) rfl hk, bko_yes (v := 2) rfl hk] at cX
     rw [show bkd (dg 2) (4 + k) = B0 from hBB.out] at cX
     go_wp2_with (fail)
     refine cX.out.mono ?_
     rintro e_ w3 ⟨rfl, hb⟩
     replace hw := Below.after hw hb
     clear cX hb
     by_cases h60 : 60 ≤ k
     · have v1 : decide (2 * ((k : Int) + 4) ≤ (A : Int)) = false := decide_eq_false (by have := f7.out h60; omega)
       have v2 : decide (9 * ((k : Int) + 4) ≤ 8 * (B0 : Int)) = false := decide_eq_false (by have := f8.out h60; omega)
       have v3 : decide ((60 : Int) ≤ (k : Int)) = true := decide_eq_true (by omega)
       have v4 : decide ((k : Int) < 60) = false := decide_eq_false (by omega)
       clear f7 f8 f9
       by_cases m1 : more < (k : Int)
       · have m1' := decide_eq_true m1
         clear m1
         go_wp2_with (fail)
         go_ret
         exact ⟨rfl, hw⟩
       · have m1' := decide_eq_false m1
         by_cases m2 : 1048576 < more
         · have m2' := decide_eq_true m2
           clear m1 m2
           go_wp2_with (fail)
           go_ret
           exact ⟨rfl, hw⟩
         · have m2' := decide_eq_false m2
           obtain ⟨j, rfl⟩ := Int.eq_ofNat_of_zero_le (show 0 ≤ more by omega)
           have hj : j ≤ 1048576 := by omega
           have m3 : k ≤ j := by omega
           have g1 := bkd_mono (d := 1) (n := 4 + k) (m := 4 + j) (by decide) (by decide) (by omega)
           have g2 := bkd_mono (d := 4) (n := 4 + k) (m := 4 + j) (by decide) (by decide) (by omega)
           obtain ⟨C, hC⟩ : ∃ C, bkd 1 (4 + j) = C := ⟨_, rfl⟩
           obtain ⟨E, hD⟩ : ∃ C, bkd 4 (4 + j) = C := ⟨_, rfl⟩
           rw [hC, hA.out] at g1
           rw [hD, hBB.out] at g2
           have s1 := bkd_le 1 (4 + j) (by decide)
           have s2 := bkd_le 4 (4 + j) (by decide)
           rw [hC] at s1
           rw [hD] at s2
           have s1' : C ≤ 2097300 := by omega
           have s2' : E ≤ 2097300 := by omega
           replace hC := hide hC
           replace hD := hide hD
           replace g1 := hide g1
           replace g2 := hide g2
           clear s1 s2 m1 m2
           have cX := hide ((a_Bucket 1 1 rfl (by decide) (j : Int)).at w3)
           rw [bke_yes (v := 1) rfl hj, bko_yes (v := 1) rfl hj] at cX
           rw [show bkd (dg 1) (4 + j) = C from hC.out] at cX
           go_wp2_with (fail)
           refine cX.out.mono ?_
           rintro e_ w4 ⟨rfl, hb⟩
           replace hw := Below.after hw hb
           clear cX hb
           have cX := hide ((a_Bucket 2 2 rfl (by decide) (j : Int)).at w4)
           rw [bke_yes (v := 2) rfl hj, bko_yes (v := 2) rfl hj] at cX
           rw [show bkd (dg 2) (4 + j) = E from hD.out] at cX
           go_wp2_with (fail)
           refine cX.out.mono ?_
           rintro e_ w5 ⟨rfl, hb⟩
           replace hw := Below.after hw hb
           clear cX hb
           have t1 : decide ((A : Int) ≤ (C : Int)) = true := decide_eq_true (by have := g1.out; omega)
           have t3 : A ≤ C := g1.out
           have t4 : B0 ≤ E := g2.out
           have t2 : decide ((B0 : Int) ≤ (E : Int)) = true := decide_eq_true (by have := g2.out; omega)
           go_wp2_with (fail)
           go_ret
           exact ⟨rfl, hw⟩
     · obtain ⟨a1, a2⟩ := f9.out (by omega)
       subst a1 a2
       have v3 : decide ((60 : Int) ≤ (k : Int)) = false := decide_eq_false (by omega)
       have v4 : decide ((k : Int) < 60) = true := decide_eq_true (by omega)
       clear f7 f8 f9 u3 u4 u5 u6 u7 u8
       by_cases m1 : more < (k : Int)
       · have m1' := decide_eq_true m1
         clear m1
         go_wp2_with (fail)
         go_ret
         exact ⟨rfl, hw⟩
       · have m1' := decide_eq_false m1
         by_cases m2 : 1048576 < more
         · have m2' := decide_eq_true m2
           clear m1 m2
           go_wp2_with (fail)
           go_ret
           exact ⟨rfl, hw⟩
         · have m2' := decide_eq_false m2
           obtain ⟨j, rfl⟩ := Int.eq_ofNat_of_zero_le (show 0 ≤ more by omega)
           have hj : j ≤ 1048576 := by omega
           have m3 : k ≤ j := by omega
           have g1 := bkd_mono (d := 1) (n := 4 + k) (m := 4 + j) (by decide) (by decide) (by omega)
           have g2 := bkd_mono (d := 4) (n := 4 + k) (m := 4 + j) (by decide) (by decide) (by omega)
           obtain ⟨C, hC⟩ : ∃ C, bkd 1 (4 + j) = C := ⟨_, rfl⟩
           obtain ⟨E, hD⟩ : ∃ C, bkd 4 (4 + j) = C := ⟨_, rfl⟩
           rw [hC, hA.out] at g1
           rw [hD, hBB.out] at g2
           have s1 := bkd_le 1 (4 + j) (by decide)
           have s2 := bkd_le 4 (4 + j) (by decide)
           rw [hC] at s1
           rw [hD] at s2
           have s1' : C ≤ 2097300 := by omega
           have s2' : E ≤ 2097300 := by omega
           replace hC := hide hC
           replace hD := hide hD
           replace g1 := hide g1
           replace g2 := hide g2
           clear s1 s2 m1 m2
           have cX := hide ((a_Bucket 1 1 rfl (by decide) (j : Int)).at w3)
           rw [bke_yes (v := 1) rfl hj, bko_yes (v := 1) rfl hj] at cX
           rw [show bkd (dg 1) (4 + j) = C from hC.out] at cX
           go_wp2_with (fail)
           refine cX.out.mono ?_
           rintro e_ w4 ⟨rfl, hb⟩
           replace hw := Below.after hw hb
           clear cX hb
           have cX := hide ((a_Bucket 2 2 rfl (by decide) (j : Int)).at w4)
           rw [bke_yes (v := 2) rfl hj, bko_yes (v := 2) rfl hj] at cX
           rw [show bkd (dg 2) (4 + j) = E from hD.out] at cX
           go_wp2_with (fail)
           refine cX.out.mono ?_
           rintro e_ w5 ⟨rfl, hb⟩
           replace hw := Below.after hw hb
           clear cX hb
           have t1 : decide ((64 : Int) ≤ (C : Int)) = true := decide_eq_true (by have := g1.out; omega)
           have t3 : 64 ≤ C := g1.out
           have t4 : 64 ≤ E := g2.out
           have t2 : decide ((64 : Int) ≤ (E : Int)) = true := decide_eq_true (by have := g2.out; omega)
           go_wp2_with (fail)
           go_ret
           exact ⟨rfl, hw⟩
end Go.Proofs.YtleeadbceljfbaaGreatDoor

