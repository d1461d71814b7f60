import Derived.Test.YtleeadbceljfbaaGreatDoorCExp
import Derived.OwnWalk
import Derived.Deep.Cut
import Derived.Deep.RegionHeld3
namespace Go.Proofs.YtleeadbceljfbaaGreatDoor
set_option maxRecDepth 100000
open Go Go.RowKit Go.Sort
attribute [local go_sem] setCell_drewN alloc_drewN
set_option maxRecDepth 100000 in
set_option maxHeartbeats 8000000 in
theorem unpadded_any (ver : Int) (h1 : -9223372036854775808 ≤ ver) (h2 : ver ≤ 9223372036854775807) (d : List B) (w : World) (dv : Value) (hE : Ety w) (hD : BysB w dv d) (hcap0 : ∀ a l c, dv = .slice a l c → l ≤ c) : Calls Tryz.prog 6 #[.int .i64 ver, dv] w fun e w' => e = .returned (.bool true) ∧ Below w.heap.size w w' := by
 obtain ⟨v, hv, hv2⟩ := ver_nat ver
 obtain ⟨kn, _⟩ := ver_known ver v hv h1 h2
 have cK := l_known ver
 rw [kn] at cK
 replace cK := hide cK
 clear kn
 have hDh := hide (fun V (h : Below w.heap.size w V) => hD.keep h)
 have hDl := hD.2.1
 obtain ⟨dao, dcap, rfl⟩ := hD.form
 have hw : Below w.heap.size w w := Below.refl _ _
 clear hD
 have hcap := hide hcap0
 clear hcap0
 go_enter Tryz.func6, Tryz.ntmps6
 have cX := hide (l_lives w hE)
 go_wp2_with (fail)
 refine cX.out.mono ?_
 rintro e_ w1 ⟨rfl, hb⟩
 clear cX
 replace hw := Below.after hw hb
 clear hb
 have cX := hide (a_Unpad ver v hv hv2 d w1 (.slice dao d.length dcap) (hDh.out _ hw) hcap.out)
 go_wp2_with (fail)
 refine cX.out.mono ?_
 rintro e_ w2 ⟨u, rfl, hO, hb⟩
 clear cX
 obtain ⟨ua, uc, rfl⟩ := slen_own hO
 replace hw := Below.after hw hb
 clear hb
 by_cases he : upe v d = 0
 · obtain ⟨hk, hz, hp⟩ := unpad_back he
   rw [he]
   have hle := bke_le hz
   rw [hk] at cK
   have cP := a_Pad ver v hv hv2 (upr v d) w2 _ (hO.bysB (by omega))
   rw [hz, hp] at cP
   obtain ⟨L, hL⟩ : ∃ L, upr v d = L := ⟨_, rfl⟩
   rw [hL] at hO hle cP ⊢
   replace cP := hide cP
   clear he hk hz hp hL
   go_wp2_with (fail)
   refine cP.out.mono ?_
   rintro e_ w3 ⟨p, rfl, hQ, hb⟩
   obtain ⟨pa, pc, rfl⟩ := slen_own hQ
   replace hw := Below.after hw hb
   clear cP hb hO
   go_wp2_with (fail)
   refine (cK.out w3).mono ?_
   rintro e_ w4 ⟨rfl, hb⟩
   replace hw := Below.after hw hb
   replace hQ := hQ.keep hb
   clear hb cK
   have dec1 : (decide (d = d)) = true := decide_eq_true rfl
   have cX := hide (sB_same d d w4 _ _ hQ.bys (hDh.out _ hw).1)
   rw [dec1] at cX
   go_wp2_with (fail)
   refine cX.out.mono ?_
   rintro e_ w5 ⟨rfl, hb⟩
   replace hw := Below.after hw hb
   clear cX hb hQ
   go_wp2_with (fail)
   go_ret
   exact ⟨rfl, hw⟩
 · have hup : upr v d = [] := by
     unfold upe at he
     unfold upr
     by_cases hk : known10 v = true
     · rw [if_pos hk] at he
       rw [hk]
       by_cases hu : upo v d = true
       · rw [if_pos hu] at he; exact absurd rfl he
       · rw [if_neg (by rw [Bool.true_and]; exact hu)]
     · rw [if_neg (by rw [Bool.and_eq_true]; exact fun h => hk h.1)]
   rw [show (upr v d).length = 0 by rw [hup]; rfl]
   clear hO hup
   cases hk : known10 v with
   | false =>
     rw [hk] at cK
     rw [show upe v d = 100 by unfold upe; rw [if_neg (by rw [hk]; simp)]]
     clear he hk
     go_wp2_with (fail)
     refine (cK.out w2).mono ?_
     rintro e_ w3 ⟨rfl, hb⟩
     replace hw := Below.after hw hb
     clear hb
     go_wp2_with (fail)
     refine (cK.out w3).mono ?_
     rintro e_ w4 ⟨rfl, hb⟩
     replace hw := Below.after hw hb
     clear hb cK
     go_wp2_with (fail)
     go_ret
     exact ⟨rfl, hw⟩
   | true =>
     rw [hk] at cK
     rw [show upe v d = 101 by unfold upe at he ⊢; rw [if_pos hk] at he ⊢; split at he; (exact absurd rfl he); rw [if_neg (by assumption)]]
     clear he hk
     go_wp2_with (fail)
     refine (cK.out w2).mono ?_
     rintro e_ w3 ⟨rfl, hb⟩
     replace hw := Below.after hw hb
     clear hb
     go_wp2_with (fail)
     refine (cK.out w3).mono ?_
     rintro e_ w4 ⟨rfl, hb⟩
     replace hw := Below.after hw hb
     clear hb cK
     go_wp2_with (fail)
     go_ret
     exact ⟨rfl, hw⟩
end Go.Proofs.YtleeadbceljfbaaGreatDoor

