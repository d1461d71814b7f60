import Derived.Test.YtleeadbceljfbaaGreatDoorCEvs
import Derived.Test.YtleeadbceljfbaaGreatDoorCEvw
import Derived.OwnWalk
import Derived.Deep.Cut
import Derived.Deep.RegionHeld3
namespace Go.Proofs.YtleeadbceljfbaaGreatDoor
set_option maxRecDepth 100000
open Go Go.RowKit Go.Sort
attribute [local go_sem] setCell_drewN alloc_drewN
set_option maxRecDepth 100000 in
set_option maxHeartbeats 8000000 in
theorem there_any (ver : Int) (h1 : -9223372036854775808 ≤ ver) (h2 : ver ≤ 9223372036854775807) (nonce hd bd : List B) (hn : nonce.length = 16) (ha : Option Addr) (hc : Nat) (ba : Option Addr) (bc : Nat) (w : World) (hE : Ety w) (hH : BysB w (.slice ha hd.length hc) hd) (hB : BysB w (.slice ba bd.length bc) bd) (b1 : hd.length ≤ 140737488351232) (b2 : bd.length ≤ 140737488351232) : Calls Tryz.prog 9 #[.agg (evl ver nonce (.slice ha hd.length hc) (.slice ba bd.length bc))] w fun e w' => e = .returned (.bool true) ∧ Below w.heap.size w w' := by
 have hv : ∃ v : Nat, IntKind.wrap .u64 ver = (v : Int) := ⟨(ver % 18446744073709551616).toNat, by show ver % 18446744073709551616 = _; omega⟩
 obtain ⟨v, hv⟩ := hv
 have R1 := hp1_0 w (.cells (evl ver nonce (.slice ha hd.length hc) (.slice ba bd.length bc)) 48)
 have hw : Below w.heap.size w (w.alloc (.cells (evl ver nonce (.slice ha hd.length hc) (.slice ba bd.length bc)) 48)) := (Below.refl _ _).alloc (Nat.le_refl _) _
 replace hE := hE.keep hw rfl
 have hHh := hide (fun V (h : Below w.heap.size w V) => hH.keep h)
 have hBh := hide (fun V (h : Below w.heap.size w V) => hB.keep h)
 clear hH hB
 have hE1 := hide (fun V (h : Below (w.alloc (.cells (evl ver nonce (.slice ha hd.length hc) (.slice ba bd.length bc)) 48)).heap.size (w.alloc (.cells (evl ver nonce (.slice ha hd.length hc) (.slice ba bd.length bc)) 48)) V) => hE.keep h rfl)
 have hw0 : Below (w.alloc (.cells (evl ver nonce (.slice ha hd.length hc) (.slice ba bd.length bc)) 48)).heap.size (w.alloc (.cells (evl ver nonce (.slice ha hd.length hc) (.slice ba bd.length bc)) 48)) (w.alloc (.cells (evl ver nonce (.slice ha hd.length hc) (.slice ba bd.length bc)) 48)) := Below.refl _ _
 go_enter Tryz.func9, Tryz.ntmps9
 go_wp2_with (first | (refine wpList_box rfl 48 _ rfl _ rfl (bEv _) ?_) | fail)
 refine (l_lives _ hE).mono ?_
 rintro e_ w1 ⟨rfl, hb⟩
 generalize w.alloc (.cells (evl ver nonce (.slice ha hd.length hc) (.slice ba bd.length bc)) 48) = w0 at *
 have lw := lt_of_row R1
 replace R1 := keep hb R1
 replace hw := Below.after hw hb
 replace hw0 := hb
 have hE' := hE1.out _ hw0
 clear hE hb hw0 hE1
 have cP := hide (a_PackE ver v hv h1 h2 nonce hn ha hd.length hc ba bd.length bc hd bd w1 hE' (hHh.out _ hw) (hBh.out _ hw) rfl rfl b1 b2)
 go_wp2_with (first | (refine wpList_load_want rfl 48 _ rfl w.heap.size rfl 48 (evl ver nonce (.slice ha hd.length hc) (.slice ba bd.length bc)) (0, 0) _ R1 Tryz.underlying48 rfl (evl_info _ _ hn _ _) ?_) | fail)
 refine cP.out.mono ?_
 rintro e_ w2 ⟨hEn, hb⟩
 have lw1 := lt_of_row R1
 replace R1 := keep hb R1
 replace hw := Below.after hw hb
 clear cP hb hE'
 cases hF : pkO v hd.length bd.length with
 | some x =>
   rw [hF] at hEn
   obtain ⟨g, rfl, _, _⟩ := hEn
   have hne := neq_fault (.pointer (some ⟨g, 0, none⟩))
   clear hF
   go_wp2_with (fail)
   go_ret
   exact ⟨rfl, hw⟩
 | none =>
   rw [hF] at hEn
   obtain ⟨u, rfl, hO⟩ := hEn
   have hk : known10 v = true := by
     cases hk : known10 v with
     | true => rfl
     | false => unfold pkO at hF; rw [hk] at hF; cases hF
   have hp : pk10 v hd.length bd.length = none := by unfold pkO at hF; rw [if_pos hk] at hF; exact hF
   have hve := (known_ver ver v hv h1 h2 hk).1
   have hle : (eout (efs v nonce hd bd)).length ≤ 140737488355000 := by
     rw [(there10 hk hn hp).2.2.2.1]
     have q := (pk_ok hp).2.2.1
     have := mo_le v
     have := en_le4 (n := bd.length) (by omega)
     omega
   have cQ := a_ParseThere hk hn hp u w2 (hO.bysB hle) (own_cap hO)
   obtain ⟨L, hL⟩ : ∃ L, eout (efs v nonce hd bd) = L := ⟨_, rfl⟩
   rw [hL] at hO hle
   obtain ⟨ua, uc, rfl⟩ := slen_own hO
   have hnn := neq_nils
   have n1 := eql_nilE
   subst hve
   replace cQ := hide cQ
   clear hF hk hp hle hL hO hv
   go_wp2_with (fail)
   refine cQ.out.mono ?_
   rintro e_ w3 ⟨⟨ia, ic, ja, jc, rfl, oH, oB⟩, hb⟩
   have lw2 := lt_of_row R1
   replace R1 := keep hb R1
   replace hw := Below.after hw hb
   clear cQ hb
   have z_ := hp1_0 w3 (.cells (evl 0 n16 (.slice none 0 0) (.slice none 0 0)) 48)
   go_wp2_with (first | (refine wpList_alloc rfl 48 rfl (evl 0 n16 (.slice none 0 0) (.slice none 0 0)) zEnv ?_) | (refine wpList_store_row rfl 48 _ _ rfl w3.heap.size (evl (v : Int) nonce (.slice ia hd.length ic) (.slice ja bd.length jc)) rfl rfl 48 _ z_ (evl_info _ _ hn _ _) (by rw [evl_size _ _ n16_len, evl_size _ _ hn]) (evl_one _ _ _ _ _ _ _ _) ?_; refine wpList_stay ?_) | fail)
   unfold WpStay
   try simp only [Act.put, List.setIfInBounds_toArray, List.set_cons_succ, List.set_cons_zero]
   have R4 := setRow_heap (w3.alloc (.cells (evl 0 n16 (.slice none 0 0) (.slice none 0 0)) 48)) w3.heap.size _ (evl (v : Int) nonce (.slice ia hd.length ic) (.slice ja bd.length jc)) _ _ z_
   have hb : Below w3.heap.size w3 ((w3.alloc (.cells (evl 0 n16 (.slice none 0 0) (.slice none 0 0)) 48)).setRow w3.heap.size (evl (v : Int) nonce (.slice ia hd.length ic) (.slice ja bd.length jc))) := below_setRow ((Below.refl _ _).alloc (Nat.le_refl _) _) (Nat.le_refl _) _
   clear z_
   replace R1 := keep hb R1
   replace oH := oH.keep hb
   replace oB := oB.keep hb
   replace hw := Below.after hw hb
   clear hb
   generalize (w3.alloc (.cells (evl 0 n16 (.slice none 0 0) (.slice none 0 0)) 48)).setRow w3.heap.size (evl (v : Int) nonce (.slice ia hd.length ic) (.slice ja bd.length jc)) = w4 at *
   generalize w3.heap.size = g4 at *
   have cS := hide (l_sameEnv (v : Int) nonce hd bd hn ia ic ja jc ha hc ba bc w4 oH.bys oB.bys (hHh.out _ hw).1 (hBh.out _ hw).1)
   go_wp2_with (first | (refine wpList_load_want rfl 48 _ rfl g4 rfl 48 (evl (v : Int) nonce (.slice ia hd.length ic) (.slice ja bd.length jc)) (0, 0) _ R4 Tryz.underlying48 rfl (evl_info _ _ hn _ _) ?_) | (refine wpList_load_want rfl 48 _ rfl w.heap.size rfl 48 (evl (v : Int) nonce (.slice ha hd.length hc) (.slice ba bd.length bc)) (0, 0) _ R1 Tryz.underlying48 rfl (evl_info _ _ hn _ _) ?_) | fail)
   refine cS.out.mono ?_
   rintro e_ w5 ⟨rfl, hb⟩
   replace hw := Below.after hw hb
   clear cS hb
   go_wp2_with (fail)
   go_ret
   exact ⟨rfl, hw⟩
theorem there_ev (ver : Int) (nonce : List B) (u v : Value) (e d : List B) (hv : -9223372036854775808 ≤ ver ∧ ver ≤ 9223372036854775807) (hn : nonce.length = 16) (w : World) (hE : Ety w) (hU : BysC w u e) (hV : BysC w v d) : Calls Tryz.prog 9 #[.agg (evl ver nonce u v)] w fun e w' => e = .returned (.bool true) ∧ Below w.heap.size w w' := by
 obtain ⟨ua, uc, rfl⟩ := hU.1.form
 obtain ⟨va, vc, rfl⟩ := hV.1.form
 exact there_any ver hv.1 hv.2 nonce e d hn ua uc va vc w hE hU.1 hV.1 hU.2.1 hV.2.1
end Go.Proofs.YtleeadbceljfbaaGreatDoor

