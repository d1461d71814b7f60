import Derived.Test.YtleeadbceljfbaaGreatDoorCEvw
import Derived.Test.YtleeadbceljfbaaGreatDoorCQd1
import Derived.OwnWalk
import Derived.Deep.Cut
import Derived.Deep.RegionHeld3
namespace Go.Proofs.YtleeadbceljfbaaGreatDoor
set_option maxRecDepth 100000
open Go Go.RowKit Go.Sort
attribute [local go_sem] setCell_drewN alloc_drewN
theorem l_known (ver : Int) : Gives 17 #[.int .i64 ver] (.bool (ver == 1 || ver == 2)) := by
 intro w
 go_enter Tryz.func17, Tryz.ntmps17
 rcases h1 : (ver == 1)
 · rcases h2 : (ver == 2)
   all_goals
     go_wp2
     go_ret
     exact ⟨rfl, Below.refl _ _⟩
 · go_wp2
   go_ret
   exact ⟨rfl, Below.refl _ _⟩
theorem bke_no {v : Nat} (n : Int) (hk : known10 v = false) : bke v n = 100 := by
 unfold bke
 rw [if_neg (by rw [hk]; simp)]
theorem bke_yes {v n : Nat} (hk : known10 v = true) (h : n ≤ 1048576) : bke v (n : Int) = 0 := by
 unfold bke
 rw [if_pos hk, if_neg (by omega), if_neg (by omega)]
theorem bke_long {v n : Nat} (hk : known10 v = true) (h : ¬ n ≤ 1048576) : bke v (n : Int) = 2 := by
 unfold bke
 rw [if_pos hk, if_neg (by omega), if_pos (by omega)]
theorem pdr_nil {v : Nat} {d : List B} (h : bke v (d.length : Int) ≠ 0) : pdr v d = [] := by
 unfold pdr
 rw [if_neg h]
theorem pdr_le (v : Nat) (d : List B) : (pdr v d).length ≤ 2097160 := by
 by_cases h : bke v (d.length : Int) = 0
 · rw [(pad_back h).2.2]
   obtain ⟨_, q1, q2⟩ := bke_ok h
   have h1 := bkd_bd v (d.length : Int) q1 q2
   rw [Int.toNat_natCast] at h1
   exact h1
 · rw [pdr_nil h]
   exact Nat.zero_le _
set_option maxRecDepth 100000 in
set_option maxHeartbeats 8000000 in
theorem padded_any (ver : Int) (h1 : -9223372036854775808 ≤ ver) (h2 : ver ≤ 9223372036854775807) (d : List B) (w : World) (dv : Value) (hE : Ety w) (hD : BysB w dv d) : Calls Tryz.prog 5 #[.int .i64 ver, dv] w fun e w' => e = .returned (.bool true) ∧ Below w.heap.size w w' := by
 obtain ⟨v, hv, hv2⟩ := ver_nat ver
 obtain ⟨kn, _⟩ := ver_known ver v hv h1 h2
 have cK := l_known ver
 rw [kn] at cK
 replace cK := hide cK
 clear kn
 have hDh := hide (fun V (h : Below w.heap.size w V) => hD.keep h)
 have hDl := hD.2.1
 obtain ⟨dao, dcap, rfl⟩ := hD.form
 have hw : Below w.heap.size w w := Below.refl _ _
 clear hD
 go_enter Tryz.func5, Tryz.ntmps5
 have cX := hide (l_lives w hE)
 go_wp2_with (fail)
 refine cX.out.mono ?_
 rintro e_ w1 ⟨rfl, hb⟩
 clear cX
 replace hw := Below.after hw hb
 clear hb
 have cX := hide (a_Pad ver v hv hv2 d w1 (.slice dao d.length dcap) (hDh.out _ hw))
 go_wp2_with (fail)
 refine cX.out.mono ?_
 rintro e_ w2 ⟨u, rfl, hO, hb⟩
 clear cX
 obtain ⟨ua, uc, rfl⟩ := slen_own hO
 replace hw := Below.after hw hb
 clear hb
 have cX := hide ((a_Bucket ver v hv hv2 (d.length : Int)).at w2)
 go_wp2_with (fail)
 refine cX.out.mono ?_
 rintro e_ w3 ⟨rfl, hb⟩
 clear cX
 replace hO := hO.keep hb
 replace hw := Below.after hw hb
 clear hb
 have cX := hide (cK.out w3)
 go_wp2_with (fail)
 refine cX.out.mono ?_
 rintro e_ w4 ⟨rfl, hb⟩
 clear cX
 replace hO := hO.keep hb
 replace hw := Below.after hw hb
 clear hb
 cases hk : known10 v with
 | false =>
   have e1 := bke_no (d.length : Int) hk
   rw [e1, show (pdr v d).length = 0 by rw [pdr_nil (by rw [e1]; decide)]; rfl]
   clear hO e1
   go_wp2_with (fail)
   go_ret
   exact ⟨rfl, hw⟩
 | true =>
   by_cases hl : d.length ≤ 1048576
   · have e1 := bke_yes hk hl
     obtain ⟨u1, u2, u3⟩ := pad_back e1
     have e3 : bko v (d.length : Int) = ((pdr v d).length : Int) := by unfold bko; rw [if_pos e1, u3, Int.toNat_natCast]
     have hle := pdr_le v d
     have cU := a_Unpad ver v hv hv2 (pdr v d) w4 _ (hO.bysB (by omega)) (own_cap hO)
     rw [u1, u2] at cU
     rw [e1, e3]
     obtain ⟨L, hL⟩ : ∃ L, pdr v d = L := ⟨_, rfl⟩
     rw [hL] at hO hle cU ⊢
     have hgt : ¬ (1048576 : Int) < (d.length : Int) := by omega
     replace cU := hide cU
     clear e1 e3 u1 u2 u3 hL hk
     go_wp2_with (fail)
     refine cU.out.mono ?_
     rintro e_ w5 ⟨p, rfl, hQ, hb⟩
     obtain ⟨pa, pc, rfl⟩ := slen_own hQ
     replace hw := Below.after hw hb
     clear cU hb hO
     have dec1 : (decide (d = d)) = true := decide_eq_true rfl
     have cX := hide (sB_same d d w5 _ _ hQ.bys (hDh.out _ hw).1)
     rw [dec1] at cX
     go_wp2_with (fail)
     refine cX.out.mono ?_
     rintro e_ w6 ⟨rfl, hb⟩
     replace hw := Below.after hw hb
     clear cX hb hQ
     go_wp2_with (fail)
     go_ret
     exact ⟨rfl, hw⟩
   · have e1 := bke_long hk hl
     have hgt : (1048576 : Int) < (d.length : Int) := by omega
     rw [e1, show (pdr v d).length = 0 by rw [pdr_nil (by rw [e1]; decide)]; rfl]
     clear hO e1
     go_wp2_with (fail)
     go_ret
     exact ⟨rfl, hw⟩
end Go.Proofs.YtleeadbceljfbaaGreatDoor

