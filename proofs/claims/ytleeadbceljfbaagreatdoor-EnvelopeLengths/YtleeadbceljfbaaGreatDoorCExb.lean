import Derived.Test.YtleeadbceljfbaaGreatDoorCEvs
import Derived.Test.YtleeadbceljfbaaGreatDoorCEvw
import Derived.Test.YtleeadbceljfbaaGreatDoorCExp
import Derived.OwnWalk
import Derived.Deep.Cut
import Derived.Deep.RegionHeld3
namespace Go.Proofs.YtleeadbceljfbaaGreatDoor
set_option maxRecDepth 100000
open Go Go.RowKit Go.Sort
attribute [local go_sem] setCell_drewN alloc_drewN
theorem builtN0 : Tryz.prog.built 46 [] = some (irow .u8 (bl n16)) := by kernel_rfl
theorem bko_yesB {v n : Nat} (hk : known10 v = true) (h : n ≤ 1048576) : bko v (n : Int) = ((bkd (dg v) (4 + n) : Nat) : Int) := by
 unfold bko
 rw [if_pos (bke_yes hk h), Int.toNat_natCast]
theorem bkd_top {v n : Nat} (hk : known10 v = true) (h : bkd (dg v) n = n) (h1 : 1048580 ≤ n) (h2 : n + 16 ≤ mo v) : bkd (dg v) (4 + 1048576) = n := by
 obtain ⟨b1, g1, _⟩ := bkd_lst (dg v) n (dg_pos v) (dg_le v)
 obtain ⟨b2, g2, l2⟩ := bkd_lst (dg v) (4 + 1048576) (dg_pos v) (dg_le v)
 rw [h] at b1
 have a := l2 n b1 (by omega)
 have b : bkd (dg v) (4 + 1048576) = mo v - 16 := by
   rcases known_lt10 hk with rfl | rfl
   · exact bkd_v1
   · exact bkd_v2
 omega
set_option maxRecDepth 100000 in
set_option maxHeartbeats 8000000 in
theorem back_any (d : List B) (w : World) (dv : Value) (hE : Ety w) (hD : BysB w dv d) (hcap0 : ∀ a l c, dv = .slice a l c → l ≤ c) : Calls Tryz.prog 10 #[dv] w fun e w' => e = .returned (.bool true) ∧ Below w.heap.size w w' := by
 have hDh := hide (fun V (h : Below w.heap.size w V) => hD.keep h)
 have hDl := hD.2.1
 obtain ⟨dao, dcap, rfl⟩ := hD.form
 have hw : Below w.heap.size w w := Below.refl _ _
 clear hD
 have hcap := hide hcap0
 clear hcap0
 have hE1 := hide (fun V (h : Below w.heap.size w V) => hE.keep h rfl)
 go_enter Tryz.func10, Tryz.ntmps10
 have cX := hide (l_lives w hE)
 go_wp2_with (fail)
 refine cX.out.mono ?_
 rintro e_ w1 ⟨rfl, hb⟩
 clear cX
 replace hw := Below.after hw hb
 clear hb
 have cQ := hide (a_ParseE d (.slice dao d.length dcap) w1 (hDh.out _ hw) hcap.out)
 go_wp2_with (fail)
 refine cQ.out.mono ?_
 rintro e_ w2 ⟨hP, hb⟩
 replace hw := Below.after hw hb
 clear cQ hb
 unfold PrE at hP
 cases hR : paF d with
 | some x =>
   rw [hR] at hP
   obtain ⟨g, rfl, _, _⟩ := hP
   have hne := neq_fault (.pointer (some ⟨g, 0, none⟩))
   have eN := hide (fun W : World => eq_non 9998 (bl n16) (bl n16) rfl rfl W)
   simp only [decide_true] at eN
   clear hR
   have z_ := hp1_0 w2 (.cells (evl 0 n16 (.slice none 0 0) (.slice none 0 0)) 48)
   go_wp2_with (first | (refine wpList_alloc rfl 48 rfl (evl 0 n16 (.slice none 0 0) (.slice none 0 0)) zEnv ?_) | (refine wpList_store_row rfl 48 _ _ rfl w2.heap.size (evl 0 n16 (.slice none 0 0) (.slice none 0 0)) rfl rfl 48 _ z_ (evl_info _ _ n16_len _ _) rfl (evl_one _ _ _ _ _ _ _ _) ?_; refine wpList_stay ?_) | fail)
   unfold WpStay
   try simp only [Act.put, List.setIfInBounds_toArray, List.set_cons_succ, List.set_cons_zero]
   have R3 := setRow_heap (w2.alloc (.cells (evl 0 n16 (.slice none 0 0) (.slice none 0 0)) 48)) w2.heap.size _ (evl 0 n16 (.slice none 0 0) (.slice none 0 0)) _ _ z_
   have hb : Below w2.heap.size w2 ((w2.alloc (.cells (evl 0 n16 (.slice none 0 0) (.slice none 0 0)) 48)).setRow w2.heap.size (evl 0 n16 (.slice none 0 0) (.slice none 0 0))) := below_setRow ((Below.refl _ _).alloc (Nat.le_refl _) _) (Nat.le_refl _) _
   clear z_
   replace hw := Below.after hw hb
   clear hb
   generalize (w2.alloc (.cells (evl 0 n16 (.slice none 0 0) (.slice none 0 0)) 48)).setRow w2.heap.size (evl 0 n16 (.slice none 0 0) (.slice none 0 0)) = w3 at *
   generalize w2.heap.size = g3 at *
   have c0 : w3.cell? ⟨g3, 0, none⟩ = some (.int .i64 0) := by rw [cell_of_row _ _ _ _ _ _ R3]; exact evl_0 _ _ _ _
   have c17 : w3.cell? ⟨g3, 17, none⟩ = some (.slice none 0 0) := by rw [cell_of_row _ _ _ _ _ _ R3]; exact evl_h _ _ n16_len _ _
   have c18 : w3.cell? ⟨g3, 18, none⟩ = some (.slice none 0 0) := by rw [cell_of_row _ _ _ _ _ _ R3]; exact evl_b _ _ n16_len _ _
   go_wp2_with (first | (refine wpList_load_part rfl 46 _ rfl (g3) 1 rfl 48 (evl 0 n16 (.slice none 0 0) (.slice none 0 0)) (0, 0) (irow .u8 (bl n16)) _ R3 (evl_n _ _ n16_len _ _) Tryz.underlying46 rfl (infoNn _ n16_len) ?_) | (refine wpList_build_want rfl 46 _ rfl [] rfl (irow .u8 (bl n16)) builtN0 ?_) | (refine wpList_eql rfl 46 46 _ _ rfl (irow .u8 (bl n16)) (irow .u8 (bl n16)) rfl rfl (by kernel_rfl) true (eN.out _) ?_) | fail)
   go_ret
   exact ⟨rfl, hw⟩
 | none =>
   rw [hR] at hP
   obtain ⟨nonce, hd, bd, hk, hn, hfs, hp, hout, hder⟩ := back10 hR
   simp only at hP
   rw [hfs] at hP
   obtain ⟨ha, hc, ba, bc, hP, oH, oB, _⟩ := hP
   replace hP : e_ = .returned (.tuple #[.agg (evl (riV d : Int) nonce (.slice ha hd.length hc) (.slice ba bd.length bc)), .nilIface]) := hP
   replace oH : Own w2 w1.heap.size (.slice ha hd.length hc) hd := oH
   replace oB : Own w2 w1.heap.size (.slice ba bd.length bc) bd := oB
   obtain ⟨h60, h80, hmo, hbk⟩ := pk_ok hp
   obtain ⟨v, hv⟩ : ∃ v, riV d = v := ⟨_, rfl⟩
   rw [hv] at hk hfs hp hout hmo hbk hP
   obtain ⟨q, hq⟩ : ∃ q, bd.length = q + 20 := ⟨bd.length - 20, by omega⟩
   have hwv : IntKind.wrap .u64 (v : Int) = (v : Int) := by rcases known_lt10 hk with rfl | rfl <;> rfl
   have hvs : v ≤ 2 := by rcases known_lt10 hk with rfl | rfl <;> decide
   have hv2 : v < 18446744073709551616 := by rcases known_lt10 hk with rfl | rfl <;> decide
   have b1 : hd.length ≤ 140737488351232 := by omega
   have b2 : bd.length ≤ 140737488351232 := by have := mo_le v; omega
   have cP := fun (W : World) (hE : Ety W) (hH : BysB W (.slice ha hd.length hc) hd) (hB : BysB W (.slice ba bd.length bc) bd) => a_PackE (v : Int) v hwv (by omega) (by omega) nonce hn ha hd.length hc ba bd.length bc hd bd W hE hH hB rfl rfl b1 b2
   have hpO : pkO v hd.length bd.length = none := by unfold pkO; rw [if_pos hk]; exact hp
   rw [hpO, hout] at cP
   replace cP := hide cP
   have cK := l_known (v : Int)
   rw [show ((v : Int) == 1 || (v : Int) == 2) = true by rcases known_lt10 hk with rfl | rfl <;> rfl] at cK
   have hqb : q + 4 ≤ 2097152 := by have := mo_le v; omega
   have hbq : bkd (dg v) (q + 4) = q + 4 := by have := hbk; rw [hq] at this; exact this
   have hbig : 1048576 < q → bkd (dg v) (4 + 1048576) = q + 4 := fun hgt => bkd_top hk hbq (by omega) (by rw [hq] at hmo; omega)
   rw [hq, h60] at hP
   subst hP
   replace h60 := hide h60
   have hnn := neq_nils
   have z_ := hp1_0 w2 (.cells (evl 0 n16 (.slice none 0 0) (.slice none 0 0)) 48)
   go_wp2_with (first | (refine wpList_alloc rfl 48 rfl (evl 0 n16 (.slice none 0 0) (.slice none 0 0)) zEnv ?_) | (refine wpList_store_row rfl 48 _ _ rfl w2.heap.size (evl (v : Int) nonce (.slice ha 60 hc) (.slice ba (q + 20) bc)) rfl rfl 48 _ z_ (evl_info _ _ hn _ _) (by rw [evl_size _ _ n16_len, evl_size _ _ hn]) (evl_one _ _ _ _ _ _ _ _) ?_; refine wpList_stay ?_) | fail)
   unfold WpStay
   try simp only [Act.put, List.setIfInBounds_toArray, List.set_cons_succ, List.set_cons_zero]
   have R3 := setRow_heap (w2.alloc (.cells (evl 0 n16 (.slice none 0 0) (.slice none 0 0)) 48)) w2.heap.size _ (evl (v : Int) nonce (.slice ha 60 hc) (.slice ba (q + 20) bc)) _ _ z_
   have hb : Below w2.heap.size w2 ((w2.alloc (.cells (evl 0 n16 (.slice none 0 0) (.slice none 0 0)) 48)).setRow w2.heap.size (evl (v : Int) nonce (.slice ha 60 hc) (.slice ba (q + 20) bc))) := below_setRow ((Below.refl _ _).alloc (Nat.le_refl _) _) (Nat.le_refl _) _
   clear z_
   replace oH := oH.keep hb
   replace oB := oB.keep hb
   replace hw := Below.after hw hb
   clear hb
   generalize (w2.alloc (.cells (evl 0 n16 (.slice none 0 0) (.slice none 0 0)) 48)).setRow w2.heap.size (evl (v : Int) nonce (.slice ha 60 hc) (.slice ba (q + 20) bc)) = w3 at *
   generalize w2.heap.size = g3 at *
   have cP1 := cP.out w3 (hE1.out _ hw) (oH.bysB (by omega)) (oB.bysB (by omega))
   rw [hq, h60.out] at cP1
   replace cP1 := hide cP1
   clear cP
   replace hfs := hide hfs
   replace hder := hide hder
   replace hbig := hide hbig
   replace hbq := hide hbq
   replace cK := hide cK
   have hk2 := hide hk
   clear hk hp hout hmo hbk hpO hR hv h80 oH oB b1 b2
   replace hq := hide hq
   go_wp2_with (first | (refine wpList_load_want rfl 48 _ rfl g3 rfl 48 (evl (v : Int) nonce (.slice ha 60 hc) (.slice ba (q + 20) bc)) (0, 0) _ R3 Tryz.underlying48 rfl (evl_info _ _ hn _ _) ?_) | fail)
   refine cP1.out.mono ?_
   rintro e_ w4 ⟨⟨u, rfl, hO⟩, hb⟩
   obtain ⟨ua, uc, rfl⟩ := slen_own hO
   have lg3 := lt_of_row R3
   replace R3 := keep hb R3
   replace hw := Below.after hw hb
   clear cP1 hb
   have cW := hide (a_decode d w4 (.slice dao d.length dcap) (hDh.out _ hw) hcap.out)
   rw [hder.out, hfs.out] at cW
   go_wp2_with (fail)
   refine cW.out.mono ?_
   rintro e_ y0 ⟨fl, us, rfl, hF, hb⟩
   obtain ⟨fb, fc, e2, hg1, hg2, hrg⟩ := hF.at (i := 0) (by show 0 < 4; decide)
   obtain rfl : fl = .slice (some ⟨fb, 0, none⟩) 4 fc := e2
   replace hrg : y0.rangeAt fb 0 (frow ⟨1, 0, v, []⟩ (gv us 0)) := hrg
   have lg4 := lt_of_row R3
   replace R3 := keep hb R3
   replace hO := hO.keep hb
   replace hw := Below.after hw hb
   clear cW hb hF
   generalize gv us 0 = fu at *
   obtain ⟨P, hPP⟩ : ∃ P, dpl (dwh d) = P := ⟨_, rfl⟩
   rw [hPP]
   clear hPP
   go_upto_region 8 with (fail)
   have hbd : Below y0.heap.size y0 y0.drew := below_drN (Below.refl _ _) 1
   replace R3 := keep hbd R3
   replace hrg := rangeS_keep2 hrg hbd hg2
   replace hO := hO.keep hbd
   replace hw := Below.after hw hbd
   have HS : (fun W : World => W.heap[g3]? = some (.cells (evl (v : Int) nonce (.slice ha 60 hc) (.slice ba (q + 20) bc)) 48 (0, 0)) ∧ W.rangeAt fb 0 (frow ⟨1, 0, v, []⟩ fu)) y0.drew := ⟨R3, hrg⟩
   have szd := hbd.size
   have l20 : (((q + 20 : Nat) : Int) - 20) = (q : Int) := by omega
   have l16 : (((q + 20 : Nat) : Int) - 16) = ((q + 4 : Nat) : Int) := by omega
   clear hbd R3 hrg
   refine wp_region_noPanic ?_
   refine wp_region_held (S := fun W : World => W.heap[g3]? = some (.cells (evl (v : Int) nonce (.slice ha 60 hc) (.slice ba (q + 20) bc)) 48 (0, 0)) ∧ W.rangeAt fb 0 (frow ⟨1, 0, v, []⟩ fu)) (by kernel_rfl) ?_
   change wpAnyH _ _ _ _ _ _ _ _ (World.drew _)
   generalize y0.drew = y1 at *
   refine wpAnyH_take (i := 0) (v := ?v1) rfl (by kernel_rfl) (by kernel_rfl) (by kernel_rfl) (fun _ _ _ h => h) (Or.inl ⟨by rfl, ?y1⟩) HS ?r1
   case y1 =>
     intro w_ hS_
     go_simp
     try with_reducible rfl
   simp only [Act.put, List.getElem_toArray, List.getElem_cons_zero, List.setIfInBounds_toArray, List.set_cons_succ, List.set_cons_zero]
   refine wpAnyH_take (i := 1) (v := .bool false) rfl (by kernel_rfl) (by kernel_rfl) (by kernel_rfl) (fun _ _ _ h => h) (Or.inl ⟨by rfl, ?y2⟩) HS ?r2
   case y2 =>
     intro w_ hS_
     have h_ := neq_nils
     go_simp
     try with_reducible rfl
   simp only [Act.put, List.getElem_toArray, List.getElem_cons_succ, List.getElem_cons_zero, List.setIfInBounds_toArray, List.set_cons_succ, List.set_cons_zero]
   refine wpAnyH_take (i := 2) (v := ?v3) rfl (by kernel_rfl) (by kernel_rfl) (by kernel_rfl) (fun _ _ _ h => h) (Or.inl ⟨by rfl, ?y3⟩) HS ?r3
   case y3 =>
     intro w_ hS_
     go_simp
     try with_reducible rfl
   simp only [Act.put, List.getElem_toArray, List.getElem_cons_succ, List.getElem_cons_zero, List.setIfInBounds_toArray, List.set_cons_succ, List.set_cons_zero]
   refine wpAnyH_take (i := 3) (v := ?v4) rfl (by kernel_rfl) (by kernel_rfl) (by kernel_rfl) (fun _ _ _ h => h) (Or.inl ⟨by rfl, ?y4⟩) HS ?r4
   case y4 =>
     intro w_ hS_
     go_simp
     try with_reducible rfl
   simp only [Act.put, List.getElem_toArray, List.getElem_cons_succ, List.getElem_cons_zero, List.setIfInBounds_toArray, List.set_cons_succ, List.set_cons_zero]
   refine wpAnyH_take (i := 4) (v := ?v5) rfl (by kernel_rfl) (by kernel_rfl) (by kernel_rfl) (fun _ _ _ h => h) (Or.inl ⟨by rfl, ?y5⟩) HS ?r5
   case y5 =>
     intro w_ hS_
     go_simp
     try with_reducible rfl
   simp only [Act.put, List.getElem_toArray, List.getElem_cons_succ, List.getElem_cons_zero, List.setIfInBounds_toArray, List.set_cons_succ, List.set_cons_zero]
   refine wpAnyH_one (k := 5) (fuel := 33) (by kernel_rfl) rfl (by rfl) (fun K_ hK => ?_)
   refine wp_call_ex (f := 19) (R := fun v w' => v = .bool true ∧ Below y1.heap.size y1 w') (by kernel_rfl) ((sB_same d d y1 _ _ hO.bys (hDh.out _ hw).1).mono (fun e w' h => (by obtain ⟨e1, e2⟩ := h; rw [show (decide (d = d)) = true from decide_eq_true rfl] at e1; exact ⟨_, e1, rfl, e2⟩))) (fun v_ y2 hX_ => ?_)
   obtain ⟨rfl, hb_⟩ := hX_
   have HS' : (fun W : World => W.heap[g3]? = some (.cells (evl (v : Int) nonce (.slice ha 60 hc) (.slice ba (q + 20) bc)) 48 (0, 0)) ∧ W.rangeAt fb 0 (frow ⟨1, 0, v, []⟩ fu)) y2 := ⟨keep hb_ HS.1, rangeS_keep2 HS.2 hb_ (by omega)⟩
   have szb := hb_.size
   replace hw := Below.after hw hb_
   clear hb_ HS hO
   have HS := HS'
   clear HS'
   refine hK _ _ HS ?_
   simp only [Act.put, List.getElem_toArray, List.getElem_cons_succ, List.getElem_cons_zero, List.setIfInBounds_toArray, List.set_cons_succ, List.set_cons_zero]
   clear hK
   refine wpAnyH_take (i := 6) (v := ?v6) rfl (by kernel_rfl) (by kernel_rfl) (by kernel_rfl) (fun _ _ _ h => h) (Or.inl ⟨by rfl, ?y6⟩) HS ?r6
   case y6 =>
     intro w_ hS_
     go_simp
     try with_reducible rfl
   simp only [Act.put, List.getElem_toArray, List.getElem_cons_succ, List.getElem_cons_zero, List.setIfInBounds_toArray, List.set_cons_succ, List.set_cons_zero]
   refine wpAnyH_take (i := 7) (v := ?v7) rfl (by kernel_rfl) (by kernel_rfl) (by kernel_rfl) (fun _ _ _ h => h) (Or.inl ⟨by rfl, ?y7⟩) HS ?r7
   case y7 =>
     intro w_ hS_
     go_simp
     try with_reducible rfl
   simp only [Act.put, List.getElem_toArray, List.getElem_cons_succ, List.getElem_cons_zero, List.setIfInBounds_toArray, List.set_cons_succ, List.set_cons_zero]
   refine wpAnyH_take (i := 8) (v := ?v8) rfl (by kernel_rfl) (by kernel_rfl) (by kernel_rfl) (fun _ _ _ h => h) (Or.inl ⟨by rfl, ?y8⟩) HS ?r8
   case y8 =>
     intro w_ hS_
     go_simp
     try with_reducible rfl
   simp only [Act.put, List.getElem_toArray, List.getElem_cons_succ, List.getElem_cons_zero, List.setIfInBounds_toArray, List.set_cons_succ, List.set_cons_zero]
   refine wpAnyH_take (i := 9) (v := ?v9) rfl (by kernel_rfl) (by kernel_rfl) (by kernel_rfl) (fun _ _ _ h => h) (Or.inl ⟨by rfl, ?y9⟩) HS ?r9
   case y9 =>
     intro w_ hS_
     go_simp
     try with_reducible rfl
   simp only [Act.put, List.getElem_toArray, List.getElem_cons_succ, List.getElem_cons_zero, List.setIfInBounds_toArray, List.set_cons_succ, List.set_cons_zero]
   refine wpAnyH_take (i := 10) (v := ?v10) rfl (by kernel_rfl) (by kernel_rfl) (by kernel_rfl) (fun _ _ _ h => h) (Or.inl ⟨by rfl, ?y10⟩) HS ?r10
   case y10 =>
     intro w_ hS_
     go_simp
     try with_reducible rfl
   simp only [Act.put, List.getElem_toArray, List.getElem_cons_succ, List.getElem_cons_zero, List.setIfInBounds_toArray, List.set_cons_succ, List.set_cons_zero]
   refine wpAnyH_take (i := 11) (v := ?v11) rfl (by kernel_rfl) (by kernel_rfl) (by kernel_rfl) (fun _ _ _ h => h) (Or.inl ⟨by rfl, ?y11⟩) HS ?r11
   case y11 =>
     intro w_ hS_
     go_simp
     try with_reducible rfl
   simp only [Act.put, List.getElem_toArray, List.getElem_cons_succ, List.getElem_cons_zero, List.setIfInBounds_toArray, List.set_cons_succ, List.set_cons_zero]
   refine wpAnyH_take (i := 12) (v := ?v12) rfl (by kernel_rfl) (by kernel_rfl) (by kernel_rfl) (fun _ _ _ h => h) (Or.inl ⟨by rfl, ?y12⟩) HS ?r12
   case y12 =>
     intro w_ hS_
     go_simp
     try with_reducible rfl
   simp only [Act.put, List.getElem_toArray, List.getElem_cons_succ, List.getElem_cons_zero, List.setIfInBounds_toArray, List.set_cons_succ, List.set_cons_zero]
   refine wpAnyH_take (i := 13) (v := ?v13) rfl (by kernel_rfl) (by kernel_rfl) (by kernel_rfl) (fun _ _ _ h => h) (Or.inl ⟨by rfl, ?y13⟩) HS ?r13
   case y13 =>
     intro w_ hS_
     go_simp
     try with_reducible rfl
   simp only [Act.put, List.getElem_toArray, List.getElem_cons_succ, List.getElem_cons_zero, List.setIfInBounds_toArray, List.set_cons_succ, List.set_cons_zero]
   refine wpAnyH_take (i := 14) (v := ?v14) rfl (by kernel_rfl) (by kernel_rfl) (by kernel_rfl) (fun _ _ _ h => h) (Or.inl ⟨by rfl, ?y14⟩) HS ?r14
   case y14 =>
     intro w_ hS_
     go_simp
     try with_reducible rfl
   simp only [Act.put, List.getElem_toArray, List.getElem_cons_succ, List.getElem_cons_zero, List.setIfInBounds_toArray, List.set_cons_succ, List.set_cons_zero]
   refine wpAnyH_take (i := 15) (v := ?v15) rfl (by kernel_rfl) (by kernel_rfl) (by kernel_rfl) (fun _ _ _ h => h) (Or.inl ⟨by rfl, ?y15⟩) HS ?r15
   case y15 =>
     intro w_ hS_
     go_simp
     try with_reducible rfl
   simp only [Act.put, List.getElem_toArray, List.getElem_cons_succ, List.getElem_cons_zero, List.setIfInBounds_toArray, List.set_cons_succ, List.set_cons_zero]
   refine wpAnyH_take (i := 16) (v := ?v16) rfl (by kernel_rfl) (by kernel_rfl) (by kernel_rfl) (fun _ _ _ h => h) (Or.inl ⟨by rfl, ?y16⟩) HS ?r16
   case y16 =>
     intro w_ hS_
     go_simp
     try with_reducible rfl
   simp only [Act.put, List.getElem_toArray, List.getElem_cons_succ, List.getElem_cons_zero, List.setIfInBounds_toArray, List.set_cons_succ, List.set_cons_zero]
   refine wpAnyH_take (i := 17) (v := ?v17) rfl (by kernel_rfl) (by kernel_rfl) (by kernel_rfl) (fun _ _ _ h => h) (Or.inl ⟨by rfl, ?y17⟩) HS ?r17
   case y17 =>
     intro w_ hS_
     go_simp
     try with_reducible rfl
   simp only [Act.put, List.getElem_toArray, List.getElem_cons_succ, List.getElem_cons_zero, List.setIfInBounds_toArray, List.set_cons_succ, List.set_cons_zero]
   refine wpAnyH_take (i := 18) (v := ?v18) rfl (by kernel_rfl) (by kernel_rfl) (by kernel_rfl) (fun _ _ _ h => h) (Or.inl ⟨by rfl, ?y18⟩) HS ?r18
   case y18 =>
     intro w_ hS_
     go_simp
     try with_reducible rfl
   simp only [Act.put, List.getElem_toArray, List.getElem_cons_succ, List.getElem_cons_zero, List.setIfInBounds_toArray, List.set_cons_succ, List.set_cons_zero]
   refine wpAnyH_take (i := 19) (v := ?v19) rfl (by kernel_rfl) (by kernel_rfl) (by kernel_rfl) (fun _ _ _ h => h) (Or.inl ⟨by rfl, ?y19⟩) HS ?r19
   case y19 =>
     intro w_ hS_
     go_simp
     try with_reducible rfl
   simp only [Act.put, List.getElem_toArray, List.getElem_cons_succ, List.getElem_cons_zero, List.setIfInBounds_toArray, List.set_cons_succ, List.set_cons_zero]
   refine wpAnyH_take (i := 20) (v := ?v20) rfl (by kernel_rfl) (by kernel_rfl) (by kernel_rfl) (fun _ _ _ h => h) (Or.inl ⟨by rfl, ?y20⟩) HS ?r20
   case y20 =>
     intro w_ hS_
     go_simp
     try with_reducible rfl
   simp only [Act.put, List.getElem_toArray, List.getElem_cons_succ, List.getElem_cons_zero, List.setIfInBounds_toArray, List.set_cons_succ, List.set_cons_zero]
   refine wpAnyH_take (i := 21) (v := .int .u64 (v : Int)) rfl (by kernel_rfl) (by kernel_rfl) (by kernel_rfl) (fun _ _ _ h => h) (Or.inl ⟨by rfl, ?y21⟩) HS ?r21
   case y21 =>
     intro w_ hS_
     have c_ : w_.cell? ⟨fb, 2, none⟩ = some (.int .u64 (v : Int)) := hS_.2 2 _ rfl
     go_simp
     try with_reducible rfl
   simp only [Act.put, List.getElem_toArray, List.getElem_cons_succ, List.getElem_cons_zero, List.setIfInBounds_toArray, List.set_cons_succ, List.set_cons_zero]
   refine wpAnyH_take (i := 22) (v := ?v22) rfl (by kernel_rfl) (by kernel_rfl) (by kernel_rfl) (fun _ _ _ h => h) (Or.inl ⟨by rfl, ?y22⟩) HS ?r22
   case y22 =>
     intro w_ hS_
     go_simp
     try with_reducible rfl
   simp only [Act.put, List.getElem_toArray, List.getElem_cons_succ, List.getElem_cons_zero, List.setIfInBounds_toArray, List.set_cons_succ, List.set_cons_zero]
   refine wpAnyH_take (i := 23) (v := .int .i64 (v : Int)) rfl (by kernel_rfl) (by kernel_rfl) (by kernel_rfl) (fun _ _ _ h => h) (Or.inl ⟨by rfl, ?y23⟩) HS ?r23
   case y23 =>
     intro w_ hS_
     have c_ : w_.cell? ⟨g3, 0, none⟩ = some (.int .i64 (v : Int)) := by rw [cell_of_row _ _ _ _ _ _ hS_.1]; exact evl_0 _ _ _ _
     go_simp
     try with_reducible rfl
   simp only [Act.put, List.getElem_toArray, List.getElem_cons_succ, List.getElem_cons_zero, List.setIfInBounds_toArray, List.set_cons_succ, List.set_cons_zero]
   refine wpAnyH_take (i := 24) (v := .int .u64 (v : Int)) rfl (by kernel_rfl) (by kernel_rfl) (by kernel_rfl) (fun _ _ _ h => h) (Or.inl ⟨by rfl, ?y24⟩) HS ?r24
   case y24 =>
     intro w_ hS_
     simp only [List.getElem_toArray, List.getElem_cons_succ, List.getElem_cons_zero]
     go_simp
     try (rw [hwv])
   simp only [Act.put, List.getElem_toArray, List.getElem_cons_succ, List.getElem_cons_zero, List.setIfInBounds_toArray, List.set_cons_succ, List.set_cons_zero]
   refine wpAnyH_take (i := 25) (v := ?v25) rfl (by kernel_rfl) (by kernel_rfl) (by kernel_rfl) (fun _ _ _ h => h) (Or.inl ⟨by rfl, ?y25⟩) HS ?r25
   case y25 =>
     intro w_ hS_
     go_simp
     try with_reducible rfl
   simp only [Act.put, List.getElem_toArray, List.getElem_cons_succ, List.getElem_cons_zero, List.setIfInBounds_toArray, List.set_cons_succ, List.set_cons_zero]
   refine wpAnyH_take (i := 26) (v := ?v26) rfl (by kernel_rfl) (by kernel_rfl) (by kernel_rfl) (fun _ _ _ h => h) (Or.inl ⟨by rfl, ?y26⟩) HS ?r26
   case y26 =>
     intro w_ hS_
     go_simp
     try with_reducible rfl
   simp only [Act.put, List.getElem_toArray, List.getElem_cons_succ, List.getElem_cons_zero, List.setIfInBounds_toArray, List.set_cons_succ, List.set_cons_zero]
   refine wpAnyH_take (i := 27) (v := ?v27) rfl (by kernel_rfl) (by kernel_rfl) (by kernel_rfl) (fun _ _ _ h => h) (Or.inl ⟨by rfl, ?y27⟩) HS ?r27
   case y27 =>
     intro w_ hS_
     go_simp
     try with_reducible rfl
   simp only [Act.put, List.getElem_toArray, List.getElem_cons_succ, List.getElem_cons_zero, List.setIfInBounds_toArray, List.set_cons_succ, List.set_cons_zero]
   refine wpAnyH_take (i := 28) (v := ?v28) rfl (by kernel_rfl) (by kernel_rfl) (by kernel_rfl) (fun _ _ _ h => h) (Or.inl ⟨by rfl, ?y28⟩) HS ?r28
   case y28 =>
     intro w_ hS_
     go_simp
     try with_reducible rfl
   simp only [Act.put, List.getElem_toArray, List.getElem_cons_succ, List.getElem_cons_zero, List.setIfInBounds_toArray, List.set_cons_succ, List.set_cons_zero]
   refine wpAnyH_take (i := 29) (v := .int .i64 (v : Int)) rfl (by kernel_rfl) (by kernel_rfl) (by kernel_rfl) (fun _ _ _ h => h) (Or.inl ⟨by rfl, ?y29⟩) HS ?r29
   case y29 =>
     intro w_ hS_
     have c_ : w_.cell? ⟨g3, 0, none⟩ = some (.int .i64 (v : Int)) := by rw [cell_of_row _ _ _ _ _ _ hS_.1]; exact evl_0 _ _ _ _
     go_simp
     try with_reducible rfl
   simp only [Act.put, List.getElem_toArray, List.getElem_cons_succ, List.getElem_cons_zero, List.setIfInBounds_toArray, List.set_cons_succ, List.set_cons_zero]
   refine wpAnyH_one (k := 30) (fuel := 8) (by kernel_rfl) rfl (by rfl) (fun K_ hK => ?_)
   refine wp_call_ex (f := 17) (R := fun v w' => v = .bool true ∧ Below y2.heap.size y2 w') (by kernel_rfl) ((cK.out y2).mono (fun e w' h => (by obtain ⟨e1, e2⟩ := h; exact ⟨_, e1, rfl, e2⟩))) (fun v_ y3 hX_ => ?_)
   obtain ⟨rfl, hb_⟩ := hX_
   have HS' : (fun W : World => W.heap[g3]? = some (.cells (evl (v : Int) nonce (.slice ha 60 hc) (.slice ba (q + 20) bc)) 48 (0, 0)) ∧ W.rangeAt fb 0 (frow ⟨1, 0, v, []⟩ fu)) y3 := ⟨keep hb_ HS.1, rangeS_keep2 HS.2 hb_ (by omega)⟩
   replace hw := Below.after hw hb_
   clear hb_ HS
   have HS := HS'
   clear HS'
   refine hK _ _ HS ?_
   simp only [Act.put, List.getElem_toArray, List.getElem_cons_succ, List.getElem_cons_zero, List.setIfInBounds_toArray, List.set_cons_succ, List.set_cons_zero]
   clear hK
   refine wpAnyH_take (i := 31) (v := ?v30) rfl (by kernel_rfl) (by kernel_rfl) (by kernel_rfl) (fun _ _ _ h => h) (Or.inl ⟨by rfl, ?y30⟩) HS ?r30
   case y30 =>
     intro w_ hS_
     go_simp
     try with_reducible rfl
   simp only [Act.put, List.getElem_toArray, List.getElem_cons_succ, List.getElem_cons_zero, List.setIfInBounds_toArray, List.set_cons_succ, List.set_cons_zero]
   refine wpAnyH_take (i := 32) (v := ?v31) rfl (by kernel_rfl) (by kernel_rfl) (by kernel_rfl) (fun _ _ _ h => h) (Or.inl ⟨by rfl, ?y31⟩) HS ?r31
   case y31 =>
     intro w_ hS_
     go_simp
     try with_reducible rfl
   simp only [Act.put, List.getElem_toArray, List.getElem_cons_succ, List.getElem_cons_zero, List.setIfInBounds_toArray, List.set_cons_succ, List.set_cons_zero]
   refine wpAnyH_take (i := 33) (v := ?v32) rfl (by kernel_rfl) (by kernel_rfl) (by kernel_rfl) (fun _ _ _ h => h) (Or.inl ⟨by rfl, ?y32⟩) HS ?r32
   case y32 =>
     intro w_ hS_
     go_simp
     try with_reducible rfl
   simp only [Act.put, List.getElem_toArray, List.getElem_cons_succ, List.getElem_cons_zero, List.setIfInBounds_toArray, List.set_cons_succ, List.set_cons_zero]
   refine wpAnyH_take (i := 34) (v := ?v33) rfl (by kernel_rfl) (by kernel_rfl) (by kernel_rfl) (fun _ _ _ h => h) (Or.inl ⟨by rfl, ?y33⟩) HS ?r33
   case y33 =>
     intro w_ hS_
     go_simp
     try with_reducible rfl
   simp only [Act.put, List.getElem_toArray, List.getElem_cons_succ, List.getElem_cons_zero, List.setIfInBounds_toArray, List.set_cons_succ, List.set_cons_zero]
   refine wpAnyH_take (i := 35) (v := .slice ha 60 hc) rfl (by kernel_rfl) (by kernel_rfl) (by kernel_rfl) (fun _ _ _ h => h) (Or.inl ⟨by rfl, ?y34⟩) HS ?r34
   case y34 =>
     intro w_ hS_
     have c_ : w_.cell? ⟨g3, 17, none⟩ = some (.slice ha 60 hc) := by rw [cell_of_row _ _ _ _ _ _ hS_.1]; exact evl_h _ _ hn _ _
     go_simp
     try with_reducible rfl
   simp only [Act.put, List.getElem_toArray, List.getElem_cons_succ, List.getElem_cons_zero, List.setIfInBounds_toArray, List.set_cons_succ, List.set_cons_zero]
   refine wpAnyH_take (i := 36) (v := ?v35) rfl (by kernel_rfl) (by kernel_rfl) (by kernel_rfl) (fun _ _ _ h => h) (Or.inl ⟨by rfl, ?y35⟩) HS ?r35
   case y35 =>
     intro w_ hS_
     go_simp
     try with_reducible rfl
   simp only [Act.put, List.getElem_toArray, List.getElem_cons_succ, List.getElem_cons_zero, List.setIfInBounds_toArray, List.set_cons_succ, List.set_cons_zero]
   refine wpAnyH_take (i := 37) (v := ?v36) rfl (by kernel_rfl) (by kernel_rfl) (by kernel_rfl) (fun _ _ _ h => h) (Or.inl ⟨by rfl, ?y36⟩) HS ?r36
   case y36 =>
     intro w_ hS_
     go_simp
     try with_reducible rfl
   simp only [Act.put, List.getElem_toArray, List.getElem_cons_succ, List.getElem_cons_zero, List.setIfInBounds_toArray, List.set_cons_succ, List.set_cons_zero]
   refine wpAnyH_take (i := 38) (v := ?v37) rfl (by kernel_rfl) (by kernel_rfl) (by kernel_rfl) (fun _ _ _ h => h) (Or.inl ⟨by rfl, ?y37⟩) HS ?r37
   case y37 =>
     intro w_ hS_
     go_simp
     try with_reducible rfl
   simp only [Act.put, List.getElem_toArray, List.getElem_cons_succ, List.getElem_cons_zero, List.setIfInBounds_toArray, List.set_cons_succ, List.set_cons_zero]
   refine wpAnyH_done (by kernel_rfl) ?_ _
   refine NoPanic.normal ?_
   have R3 := HS.1
   clear HS
   have c0 : y3.cell? ⟨g3, 0, none⟩ = some (.int .i64 (v : Int)) := by rw [cell_of_row _ _ _ _ _ _ R3]; exact evl_0 _ _ _ _
   have c18 : y3.cell? ⟨g3, 18, none⟩ = some (.slice ba (q + 20) bc) := by rw [cell_of_row _ _ _ _ _ _ R3]; exact evl_b _ _ hn _ _
   by_cases hgt : 1048576 < q
   · have e1 := bke_yes (v := v) (n := 1048576) hk2.out (Nat.le_refl _)
     have e2 := bko_yesB (v := v) (n := 1048576) hk2.out (Nat.le_refl _)
     rw [hbig.out hgt] at e2
     have d1 : decide ((1048576 : Int) < (q : Int)) = true := decide_eq_true (by omega)
     replace hgt := hide hgt
     have cX := (a_Bucket (v : Int) v hwv hv2 ((1048576 : Nat) : Int)).at y3
     rw [e1, e2] at cX
     clear e1 e2
     replace cX := hide cX
     go_wp2_with (fail)
     refine cX.out.mono ?_
     rintro e_ y4 ⟨rfl, hb⟩
     replace R3 := keep hb R3
     replace hw := Below.after hw hb
     clear cX hb c0 c18
     have c18 : y4.cell? ⟨g3, 18, none⟩ = some (.slice ba (q + 20) bc) := by rw [cell_of_row _ _ _ _ _ _ R3]; exact evl_b _ _ hn _ _
     go_wp2_with (fail)
     go_ret
     refine ⟨?_, hw⟩
     show Ending.returned (Value.bool ((q : Int) + 4 == (q : Int) + 20 - 16)) = _
     rw [show ((q : Int) + 4 == (q : Int) + 20 - 16) = true from beq_iff_eq.2 (by omega)]
   · have e1 := bke_yes (v := v) (n := q) hk2.out (by omega)
     have e2 := bko_yesB (v := v) (n := q) hk2.out (by omega)
     rw [Nat.add_comm 4 q, hbq.out] at e2
     have d1 : decide ((1048576 : Int) < (q : Int)) = false := decide_eq_false (by omega)
     replace hgt := hide hgt
     have cX := (a_Bucket (v : Int) v hwv hv2 (q : Int)).at y3
     rw [e1, e2] at cX
     clear e1 e2
     replace cX := hide cX
     go_wp2_with (fail)
     refine cX.out.mono ?_
     rintro e_ y4 ⟨rfl, hb⟩
     replace R3 := keep hb R3
     replace hw := Below.after hw hb
     clear cX hb c0 c18
     have c18 : y4.cell? ⟨g3, 18, none⟩ = some (.slice ba (q + 20) bc) := by rw [cell_of_row _ _ _ _ _ _ R3]; exact evl_b _ _ hn _ _
     go_wp2_with (fail)
     go_ret
     refine ⟨?_, hw⟩
     show Ending.returned (Value.bool ((q : Int) + 4 == (q : Int) + 20 - 16)) = _
     rw [show ((q : Int) + 4 == (q : Int) + 20 - 16) = true from beq_iff_eq.2 (by omega)]
end Go.Proofs.YtleeadbceljfbaaGreatDoor

