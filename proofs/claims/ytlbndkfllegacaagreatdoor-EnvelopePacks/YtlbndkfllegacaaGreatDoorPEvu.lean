import Derived.Test.YtlbndkfllegacaaGreatDoorPQb8
import Derived.OwnWalk
import Derived.Deep.Cut
import Derived.Deep.RegionHeld3
namespace Go.Proofs.YtlbndkfllegacaaGreatDoor
set_option maxRecDepth 100000
open Go Go.RowKit Go.Sort
attribute [local go_sem] setCell_drewN alloc_drewN
def fPk (o : Option Flt3) : Array Value := match o with
 | none => #[.int .i64 0, .int .i64 0, .int .i64 0]
 | some x => frw x
def oPk (o : Option Flt3) (l : List B) : List B := match o with
 | none => l
 | some _ => []
theorem esl_chk (v g : Nat) (ha : Option Addr) (hc : Nat) (ba : Option Addr) (bn bc : Nat) (h1 : 80 ≤ bn) (h2 : bn ≤ mo v) : chF (esl v) (exs v g ha 60 hc ba bn bc) 1 = none := by
 have h := esl_ck v g ha 60 hc ba bn bc
 unfold ckF at h
 rw [if_neg (by simp), if_neg (by show ¬ (4 : Nat) ≠ 4; decide)] at h
 rw [h]
 unfold ek10
 rw [if_neg (by simp), if_neg (by omega)]
theorem BysB.bn {W : World} {a : Option Addr} {n c : Nat} {d : List B} (h : BysB W (.slice a n c) d) : n ≤ 140737488355000 := by
 obtain ⟨⟨ao, cap, e, _⟩, hl, _⟩ := h
 injection e with e1 e2 e3
 rw [bl_len] at e2
 omega
theorem infoFtR : (Tryz.prog.info? 35).map (·.size) = some 3 := by kernel_rfl
set_option maxRecDepth 100000 in
set_option maxHeartbeats 16000000 in
theorem r_PackE1 (nonce : List B) (hn : nonce.length = 16) (ha : Option Addr) (hl hc : Nat) (ba : Option Addr) (bn bc : Nat) (hd bd : List B) (w : World) (hH : BysB w (.slice ha hl hc) hd) (hB : BysB w (.slice ba bn bc) bd) (b1 : hd.length ≤ 140737488351232) (b2 : bd.length ≤ 140737488351232) : Calls Tryz.prog 19 #[.agg (evl 1 nonce (.slice ha hl hc) (.slice ba bn bc))] w fun e w' => (∃ u, e = .returned (.tuple #[u, .agg (fPk (pk10 1 hl bn))]) ∧ Own w' w.heap.size u (oPk (pk10 1 hl bn) (eout (efs 1 nonce hd bd)))) ∧ Below w.heap.size w w' := by
 have RH := hp2_0 w (.cells (evl 1 nonce (.slice ha hl hc) (.slice ba bn bc)) 51) (.cells #[.int .i64 0, .int .i64 0, .int .i64 0] 35)
 have R3 := hp2_1 w (.cells (evl 1 nonce (.slice ha hl hc) (.slice ba bn bc)) 51) (.cells #[.int .i64 0, .int .i64 0, .int .i64 0] 35)
 have hw : Below w.heap.size w ((w.alloc (.cells (evl 1 nonce (.slice ha hl hc) (.slice ba bn bc)) 51)).alloc (.cells #[.int .i64 0, .int .i64 0, .int .i64 0] 35)) := ((Below.refl _ _).alloc (Nat.le_refl _) _).alloc (by simp) _
 have hone : (#[Value.int .i64 0, .int .i64 0, .int .i64 0] : Array Value).all (·.oneCell') = true := by simp [Value.oneCell']
 replace hH := hH.keep hw
 replace hB := hB.keep hw
 have cK := r_known10 1
 rw [show ((1 : Int) == 1 || (1 : Int) == 2) = true from rfl] at cK
 replace cK := hide cK
 go_enter Tryz.func19, Tryz.ntmps19
 go_upto_region 1 with (first | (refine wpList_box rfl 51 _ rfl _ rfl (bEv _) ?_) | fail)
 try simp only [size_alloc1, Act.put, List.setIfInBounds_toArray, List.set_cons_succ, List.set_cons_zero]
 generalize (w.alloc (.cells (evl 1 nonce (.slice ha hl hc) (.slice ba bn bc)) 51)).alloc (.cells #[.int .i64 0, .int .i64 0, .int .i64 0] 35) = w00 at *
 have c0 : w00.cell? ⟨w.heap.size, 0, none⟩ = some (.int .i64 1) := by rw [cell_of_row _ _ _ _ _ _ RH]; exact evl_0 _ _ _ _
 go_wp2_with (fail)
 refine (cK.out w00).mono ?_
 rintro e_ w0 ⟨rfl, hb_⟩
 have l3 := lt_of_row R3
 replace RH := keep hb_ RH
 replace R3 := keep hb_ R3
 replace hH := hH.keep hb_
 replace hB := hB.keep hb_
 replace hw := Below.after hw hb_
 clear hb_ cK c0
 have c0 : w0.cell? ⟨w.heap.size, 0, none⟩ = some (.int .i64 1) := by rw [cell_of_row _ _ _ _ _ _ RH]; exact evl_0 _ _ _ _
 have c17 : w0.cell? ⟨w.heap.size, 17, none⟩ = some (.slice ha hl hc) := by rw [cell_of_row _ _ _ _ _ _ RH]; exact evl_h _ _ hn _ _
 have c18 : w0.cell? ⟨w.heap.size, 18, none⟩ = some (.slice ba bn bc) := by rw [cell_of_row _ _ _ _ _ _ RH]; exact evl_b _ _ hn _ _
 by_cases h1 : hl = 60
 · subst h1
   have cH := r_holds1 bn (by have := hB.bn; omega)
   by_cases h2 : 80 ≤ bn ∧ bn ≤ mo 1 ∧ bkd (dg 1) (bn - 16) = bn - 16
   · rw [decide_eq_true h2] at cH
     have hpk : Hid (pk10 1 60 bn = none) := hide (pk_of rfl h2.1 h2.2.1 h2.2.2)
     obtain ⟨h80, hmo, _⟩ := h2
     replace cH := hide cH
     go_wp2_with (fail)
     refine (cH.out w0).mono ?_
     rintro e_ x0 ⟨rfl, hb_⟩
     have l30 := lt_of_row R3
     replace RH := keep hb_ RH
     replace R3 := keep hb_ R3
     replace hH := hH.keep hb_
     replace hB := hB.keep hb_
     replace hw := Below.after hw hb_
     clear hb_ cH c0 c17 c18
     have skN := slice_n16 w.heap.size 1
     go_upto_region 7 with (fail)
     have hbd : Below x0.heap.size x0 x0.drew := below_drN (Below.refl _ _) 1
     replace RH := keep hbd RH
     replace R3 := keep hbd R3
     replace hH := hH.keep hbd
     replace hB := hB.keep hbd
     replace hw := Below.after hw hbd
     clear hbd
     refine wp_region_noPanic ?_
     refine wp_region_held (S := fun W : World => W.heap[w.heap.size]? = some (.cells (evl 1 nonce (.slice ha 60 hc) (.slice ba bn bc)) 51 (0, 0))) (by kernel_rfl) ?_
     change wpAnyH _ _ _ _ _ _ _ _ (World.drew _)
     generalize x0.drew = w1 at *
     refine wpAnyH_take (i := 0) (v := ?v109) rfl (by kernel_rfl) (by kernel_rfl) (by kernel_rfl) (fun _ _ _ h => h) (Or.inl ⟨by rfl, ?y109⟩) (RH) ?r109
     case y109 =>
       intro w_ hS_
       go_simp
       try with_reducible rfl
     simp only [Act.put, List.getElem_toArray, List.getElem_cons_zero, List.setIfInBounds_toArray, List.set_cons_succ, List.set_cons_zero]
     refine wpAnyH_take (i := 1) (v := .int .i64 1) rfl (by kernel_rfl) (by kernel_rfl) (by kernel_rfl) (fun _ _ _ h => h) (Or.inl ⟨by rfl, ?y110⟩) (RH) ?r110
     case y110 =>
       intro w_ hS_
       have c_ : w_.cell? ⟨w.heap.size, 0, none⟩ = some (.int .i64 1) := by rw [cell_of_row _ _ _ _ _ _ hS_]; exact evl_0 _ _ _ _
       go_simp
       try with_reducible rfl
     simp only [Act.put, List.getElem_toArray, List.getElem_cons_succ, List.getElem_cons_zero, List.setIfInBounds_toArray, List.set_cons_succ, List.set_cons_zero]
     refine wpAnyH_take (i := 3) (v := ?v111) rfl (by kernel_rfl) (by kernel_rfl) (by kernel_rfl) (fun _ _ _ h => h) (Or.inl ⟨by rfl, ?y111⟩) (RH) ?r111
     case y111 =>
       intro w_ hS_
       go_simp
       try with_reducible rfl
     simp only [Act.put, List.getElem_toArray, List.getElem_cons_succ, List.getElem_cons_zero, List.setIfInBounds_toArray, List.set_cons_succ, List.set_cons_zero]
     refine wpAnyH_take (i := 4) (v := .int .i64 1) rfl (by kernel_rfl) (by kernel_rfl) (by kernel_rfl) (fun _ _ _ h => h) (Or.inl ⟨by rfl, ?y112⟩) (RH) ?r112
     case y112 =>
       intro w_ hS_
       have c_ : w_.cell? ⟨w.heap.size, 0, none⟩ = some (.int .i64 1) := by rw [cell_of_row _ _ _ _ _ _ hS_]; exact evl_0 _ _ _ _
       go_simp
       try with_reducible rfl
     simp only [Act.put, List.getElem_toArray, List.getElem_cons_succ, List.getElem_cons_zero, List.setIfInBounds_toArray, List.set_cons_succ, List.set_cons_zero]
     refine wpAnyH_take (i := 5) (v := .int .u64 1) rfl (by kernel_rfl) (by kernel_rfl) (by kernel_rfl) (fun _ _ _ h => h) (Or.inl ⟨by rfl, ?y113⟩) (RH) ?r113
     case y113 =>
       intro w_ hS_
       go_simp
       rfl
     simp only [Act.put, List.getElem_toArray, List.getElem_cons_succ, List.getElem_cons_zero, List.setIfInBounds_toArray, List.set_cons_succ, List.set_cons_zero]
     refine wpAnyH_take (i := 6) (v := .agg #[.int .u64 1, .slice none 0 0, .slice none 0 0]) rfl (by kernel_rfl) (by kernel_rfl) (by kernel_rfl) (fun _ _ _ h => h) (Or.inl ⟨by rfl, ?y114⟩) (RH) ?r114
     case y114 =>
       intro w_ hS_
       go_simp
       try with_reducible rfl
     simp only [Act.put, List.getElem_toArray, List.getElem_cons_succ, List.getElem_cons_zero, List.setIfInBounds_toArray, List.set_cons_succ, List.set_cons_zero]
     refine wpAnyH_take (i := 7) (v := ?v115) rfl (by kernel_rfl) (by kernel_rfl) (by kernel_rfl) (fun _ _ _ h => h) (Or.inl ⟨by rfl, ?y115⟩) (RH) ?r115
     case y115 =>
       intro w_ hS_
       go_simp
       try with_reducible rfl
     simp only [Act.put, List.getElem_toArray, List.getElem_cons_succ, List.getElem_cons_zero, List.setIfInBounds_toArray, List.set_cons_succ, List.set_cons_zero]
     refine wpAnyH_take (i := 8) (v := .slice (some ⟨w.heap.size, 1, none⟩) 16 16) rfl (by kernel_rfl) (by kernel_rfl) (by kernel_rfl) (fun _ _ _ h => h) (Or.inl ⟨by rfl, ?y116⟩) (RH) ?r116
     case y116 =>
       intro w_ hS_
       go_simp
       try with_reducible rfl
     simp only [Act.put, List.getElem_toArray, List.getElem_cons_succ, List.getElem_cons_zero, List.setIfInBounds_toArray, List.set_cons_succ, List.set_cons_zero]
     refine wpAnyH_take (i := 9) (v := .agg #[.int .u64 0, .slice (some ⟨w.heap.size, 1, none⟩) 16 16, .slice none 0 0]) rfl (by kernel_rfl) (by kernel_rfl) (by kernel_rfl) (fun _ _ _ h => h) (Or.inl ⟨by rfl, ?y117⟩) (RH) ?r117
     case y117 =>
       intro w_ hS_
       go_simp
       try with_reducible rfl
     simp only [Act.put, List.getElem_toArray, List.getElem_cons_succ, List.getElem_cons_zero, List.setIfInBounds_toArray, List.set_cons_succ, List.set_cons_zero]
     refine wpAnyH_take (i := 10) (v := ?v118) rfl (by kernel_rfl) (by kernel_rfl) (by kernel_rfl) (fun _ _ _ h => h) (Or.inl ⟨by rfl, ?y118⟩) (RH) ?r118
     case y118 =>
       intro w_ hS_
       go_simp
       try with_reducible rfl
     simp only [Act.put, List.getElem_toArray, List.getElem_cons_succ, List.getElem_cons_zero, List.setIfInBounds_toArray, List.set_cons_succ, List.set_cons_zero]
     refine wpAnyH_take (i := 11) (v := .slice ha 60 hc) rfl (by kernel_rfl) (by kernel_rfl) (by kernel_rfl) (fun _ _ _ h => h) (Or.inl ⟨by rfl, ?y119⟩) (RH) ?r119
     case y119 =>
       intro w_ hS_
       have c_ : w_.cell? ⟨w.heap.size, 17, none⟩ = some (.slice ha 60 hc) := by rw [cell_of_row _ _ _ _ _ _ hS_]; exact evl_h _ _ hn _ _
       go_simp
       try with_reducible rfl
     simp only [Act.put, List.getElem_toArray, List.getElem_cons_succ, List.getElem_cons_zero, List.setIfInBounds_toArray, List.set_cons_succ, List.set_cons_zero]
     refine wpAnyH_take (i := 12) (v := .agg #[.int .u64 0, .slice ha 60 hc, .slice none 0 0]) rfl (by kernel_rfl) (by kernel_rfl) (by kernel_rfl) (fun _ _ _ h => h) (Or.inl ⟨by rfl, ?y120⟩) (RH) ?r120
     case y120 =>
       intro w_ hS_
       go_simp
       try with_reducible rfl
     simp only [Act.put, List.getElem_toArray, List.getElem_cons_succ, List.getElem_cons_zero, List.setIfInBounds_toArray, List.set_cons_succ, List.set_cons_zero]
     refine wpAnyH_take (i := 13) (v := ?v121) rfl (by kernel_rfl) (by kernel_rfl) (by kernel_rfl) (fun _ _ _ h => h) (Or.inl ⟨by rfl, ?y121⟩) (RH) ?r121
     case y121 =>
       intro w_ hS_
       go_simp
       try with_reducible rfl
     simp only [Act.put, List.getElem_toArray, List.getElem_cons_succ, List.getElem_cons_zero, List.setIfInBounds_toArray, List.set_cons_succ, List.set_cons_zero]
     refine wpAnyH_take (i := 14) (v := .slice ba bn bc) rfl (by kernel_rfl) (by kernel_rfl) (by kernel_rfl) (fun _ _ _ h => h) (Or.inl ⟨by rfl, ?y122⟩) (RH) ?r122
     case y122 =>
       intro w_ hS_
       have c_ : w_.cell? ⟨w.heap.size, 18, none⟩ = some (.slice ba bn bc) := by rw [cell_of_row _ _ _ _ _ _ hS_]; exact evl_b _ _ hn _ _
       go_simp
       try with_reducible rfl
     simp only [Act.put, List.getElem_toArray, List.getElem_cons_succ, List.getElem_cons_zero, List.setIfInBounds_toArray, List.set_cons_succ, List.set_cons_zero]
     refine wpAnyH_take (i := 15) (v := .agg #[.int .u64 0, .slice ba bn bc, .slice none 0 0]) rfl (by kernel_rfl) (by kernel_rfl) (by kernel_rfl) (fun _ _ _ h => h) (Or.inl ⟨by rfl, ?y123⟩) (RH) ?r123
     case y123 =>
       intro w_ hS_
       go_simp
       try with_reducible rfl
     simp only [Act.put, List.getElem_toArray, List.getElem_cons_succ, List.getElem_cons_zero, List.setIfInBounds_toArray, List.set_cons_succ, List.set_cons_zero]
     refine wpAnyH_three (j := 2) (k := 16) (l := 22) (fuel := 9) (by kernel_rfl) rfl rfl rfl (by kernel_rfl) (by kernel_rfl) (by kernel_rfl) (fun K_ hK_ => ?_) (fun K_ hK_ => ?_) (fun K_ hK_ => ?_)
     · have cH := (r_shapeE1 w1).mono (fun e w' h => (by obtain ⟨x, h1, ⟨q, h2, _, h3⟩, h4⟩ := h; exact ⟨_, h1, q, h2, h3, h4⟩ : ∃ v, e = .returned v ∧ ∃ q, v = .pointer (some ⟨q, 0, none⟩) ∧ Rdc w' q (esl 1) ∧ Below w1.heap.size w1 w'))
       refine wp_call_ex (R := fun v w' => ∃ q, v = .pointer (some ⟨q, 0, none⟩) ∧ Rdc w' q (esl 1) ∧ Below w1.heap.size w1 w') (by kernel_rfl) cH (fun v_ q1 hX_ => ?_)
       obtain ⟨q, rfl, hC, hb_⟩ := hX_
       replace RH := keep hb_ RH
       replace R3 := keep hb_ R3
       replace hH := hH.keep hb_
       replace hB := hB.keep hb_
       replace hw := Below.after hw hb_
       clear hb_ cH
       refine hK_ _ _ (RH) ?_
       simp only [Act.put, List.getElem_toArray, List.getElem_cons_succ, List.getElem_cons_zero, List.setIfInBounds_toArray, List.set_cons_succ, List.set_cons_zero]
       clear hK_
       refine wpAnyH_two (j := 16) (k := 22) (fuel := 8) (by kernel_rfl) rfl rfl (by kernel_rfl) (by kernel_rfl) (fun K_ hK_ => ?_) (fun K_ hK_ => ?_)
       · refine wp_val_op (.slice (some ⟨q1.heap.size, 0, none⟩) 4 4) (w' := q1.alloc (.cells #[.int .u64 1, .slice none 0 0, .slice none 0 0, .int .u64 0, .slice (some ⟨w.heap.size, 1, none⟩) 16 16, .slice none 0 0, .int .u64 0, .slice ha 60 hc, .slice none 0 0, .int .u64 0, .slice ba bn bc, .slice none 0 0] 76)) (by kernel_rfl) ?_
         have hPs : Bx (q1.alloc (.cells #[.int .u64 1, .slice none 0 0, .slice none 0 0, .int .u64 0, .slice (some ⟨w.heap.size, 1, none⟩) 16 16, .slice none 0 0, .int .u64 0, .slice ha 60 hc, .slice none 0 0, .int .u64 0, .slice ba bn bc, .slice none 0 0] 76)) q1.heap.size #[.int .u64 1, .slice none 0 0, .slice none 0 0, .int .u64 0, .slice (some ⟨w.heap.size, 1, none⟩) 16 16, .slice none 0 0, .int .u64 0, .slice ha 60 hc, .slice none 0 0, .int .u64 0, .slice ba bn bc, .slice none 0 0] := ⟨_, hp1_0 q1 _⟩
         have hb_ : Below q1.heap.size q1 (q1.alloc (.cells #[.int .u64 1, .slice none 0 0, .slice none 0 0, .int .u64 0, .slice (some ⟨w.heap.size, 1, none⟩) 16 16, .slice none 0 0, .int .u64 0, .slice ha 60 hc, .slice none 0 0, .int .u64 0, .slice ba bn bc, .slice none 0 0] 76)) := (Below.refl _ _).alloc (Nat.le_refl _) _
         replace RH := keep hb_ RH
         replace R3 := keep hb_ R3
         replace hH := hH.keep hb_
         replace hB := hB.keep hb_
         replace hC := rdc_keepH hC hb_
         replace hw := Below.after hw hb_
         clear hb_
         refine hK_ _ _ (RH) ?_
         simp only [Act.put, List.getElem_toArray, List.getElem_cons_succ, List.getElem_cons_zero, List.setIfInBounds_toArray, List.set_cons_succ, List.set_cons_zero]
         clear hK_
         generalize q1.alloc (.cells #[.int .u64 1, .slice none 0 0, .slice none 0 0, .int .u64 0, .slice (some ⟨w.heap.size, 1, none⟩) 16 16, .slice none 0 0, .int .u64 0, .slice ha 60 hc, .slice none 0 0, .int .u64 0, .slice ba bn bc, .slice none 0 0] 76) = q2 at *
         generalize q1.heap.size = gp at *
         refine wpAnyH_take (i := 17) (v := .agg #[.int .u64 0, .slice none 0 0, .slice (some ⟨gp, 0, none⟩) 4 4]) rfl (by kernel_rfl) (by kernel_rfl) (by kernel_rfl) (fun _ _ _ h => h) (Or.inl ⟨by rfl, ?y124⟩) (RH) ?r124
         case y124 =>
           intro w_ hS_
           go_simp
           try with_reducible rfl
         simp only [Act.put, List.getElem_toArray, List.getElem_cons_succ, List.getElem_cons_zero, List.setIfInBounds_toArray, List.set_cons_succ, List.set_cons_zero]
         refine wpAnyH_two (j := 18) (k := 22) (fuel := 6) (by kernel_rfl) rfl rfl (by kernel_rfl) (by kernel_rfl) (fun K_ hK_ => ?_) (fun K_ hK_ => ?_)
         · have cE := r_EncodeF esl1_flat (by decide) none 0 (.slice (some ⟨gp, 0, none⟩) 4 4) (exs 1 (w.heap.size) ha 60 hc ba bn bc) [[], nonce, hd, bd] rfl (esl_chk 1 _ _ _ _ _ _ h80 hmo) q2 hC (exs_prt (by decide) (by decide) (by have := hB.bn; omega) hPs) (exs_bys (by decide) hn RH hH hB b1 b2)
           rw [exs_fdk] at cE
           have cE2 := cE.mono (fun e w' h => (by obtain ⟨u, e1, e2, e3⟩ := h; exact ⟨_, e1, u, rfl, e2, e3⟩ : ∃ v, e = .returned v ∧ ∃ u, v = .tuple #[u, .agg #[.int .i64 0, .int .i64 0, .int .i64 0]] ∧ Own w' q2.heap.size u (eout (efs 1 nonce hd bd)) ∧ Below q2.heap.size q2 w'))
           refine wp_call_ex (R := fun v w' => ∃ u, v = .tuple #[u, .agg #[.int .i64 0, .int .i64 0, .int .i64 0]] ∧ Own w' q2.heap.size u (eout (efs 1 nonce hd bd)) ∧ Below q2.heap.size q2 w') (by kernel_rfl) cE2 (fun v_ q3 hX_ => ?_)
           obtain ⟨u, rfl, hU, hb_⟩ := hX_
           have hU2 := own_down hU hw.size
           have hne3 : ∀ k, u.ownBlock = some k → k ≠ w.heap.size + 1 := fun k e => by have := own_low hU k e; have := lt_of_row R3; omega
           clear cE cE2 hC hPs
           replace RH := keep hb_ RH
           replace R3 := keep hb_ R3
           replace hw := Below.after hw hb_
           clear hb_ hU hH hB
           obtain ⟨L, hL⟩ : ∃ L, (eout (efs 1 nonce hd bd)) = L := ⟨_, rfl⟩
           rw [hL] at hU2
           replace hL := hide hL
           obtain ⟨ua, uc, rfl⟩ := slen_own hU2
           refine hK_ _ _ (RH) ?_
           simp only [Act.put, List.getElem_toArray, List.getElem_cons_succ, List.getElem_cons_zero, List.setIfInBounds_toArray, List.set_cons_succ, List.set_cons_zero]
           clear hK_
           refine wpAnyH_take (i := 19) (v := ?v125) rfl (by kernel_rfl) (by kernel_rfl) (by kernel_rfl) (fun _ _ _ h => h) (Or.inl ⟨by rfl, ?y125⟩) (RH) ?r125
           case y125 =>
             intro w_ hS_
             go_simp
             try with_reducible rfl
           simp only [Act.put, List.getElem_toArray, List.getElem_cons_succ, List.getElem_cons_zero, List.setIfInBounds_toArray, List.set_cons_succ, List.set_cons_zero]
           refine wpAnyH_take (i := 20) (v := ?v126) rfl (by kernel_rfl) (by kernel_rfl) (by kernel_rfl) (fun _ _ _ h => h) (Or.inl ⟨by rfl, ?y126⟩) (RH) ?r126
           case y126 =>
             intro w_ hS_
             go_simp
             try with_reducible rfl
           simp only [Act.put, List.getElem_toArray, List.getElem_cons_succ, List.getElem_cons_zero, List.setIfInBounds_toArray, List.set_cons_succ, List.set_cons_zero]
           refine wpAnyH_take (i := 21) (v := ?v127) rfl (by kernel_rfl) (by kernel_rfl) (by kernel_rfl) (fun _ _ _ h => h) (Or.inl ⟨by rfl, ?y127⟩) (RH) ?r127
           case y127 =>
             intro w_ hS_
             go_simp
             try with_reducible rfl
           simp only [Act.put, List.getElem_toArray, List.getElem_cons_succ, List.getElem_cons_zero, List.setIfInBounds_toArray, List.set_cons_succ, List.set_cons_zero]
           refine wpAnyH_one (k := 22) (fuel := 2) (by kernel_rfl) rfl (by kernel_rfl) (fun K_ hK_ => ?_)
           have hne0 := fun k e => (own_lt hU2 k e).2
           refine wp_world_op (.pointer (some ⟨q3.heap.size, 0, none⟩)) (q3.alloc (.cells #[.int .i64 0, .int .i64 0, .int .i64 0] 35)) (by kernel_rfl) ?_
           have hb_ : Below q3.heap.size q3 (q3.alloc (.cells #[.int .i64 0, .int .i64 0, .int .i64 0] 35)) := (Below.refl _ _).alloc (Nat.le_refl _) _
           have sz_g6 : w.heap.size ≤ q3.heap.size := hw.size
           have lt_RH_g6 := lt_of_row RH
           have lt_R3_g6 := lt_of_row R3
           have RF := hp1_0 q3 (.cells #[.int .i64 0, .int .i64 0, .int .i64 0] 35)
           replace RH := keep hb_ RH
           replace R3 := keep hb_ R3
           replace hU2 := hU2.keep hb_
           replace hw := Below.after hw hb_
           clear hb_
           refine hK_ _ _ (RH) ?_
           simp only [Act.put, List.getElem_toArray, List.getElem_cons_succ, List.getElem_cons_zero, List.setIfInBounds_toArray, List.set_cons_succ, List.set_cons_zero]
           clear hK_
           generalize q3.alloc (.cells #[.int .i64 0, .int .i64 0, .int .i64 0] 35) = q5 at *
           generalize q3.heap.size = g6 at *
           have hne : ∀ k, (Value.slice ua L.length uc).ownBlock = some k → k ≠ g6 := fun k e => by have := hne0 k e; omega
           refine wpAnyH_take (i := 23) (v := ?v128) rfl (by kernel_rfl) (by kernel_rfl) (by kernel_rfl) (fun _ _ _ h => h) (Or.inl ⟨by rfl, ?y128⟩) (RH) ?r128
           case y128 =>
             intro w_ hS_
             go_simp
             try with_reducible rfl
           simp only [Act.put, List.getElem_toArray, List.getElem_cons_succ, List.getElem_cons_zero, List.setIfInBounds_toArray, List.set_cons_succ, List.set_cons_zero]
           refine wpAnyH_one (k := 24) (fuel := 0) (by kernel_rfl) rfl (by kernel_rfl) (fun K_ hK_ => ?_)
           refine wp_store_row 35 _ _ rfl (g6) #[.int .i64 0, .int .i64 0, .int .i64 0] rfl rfl 35 _ RF infoFt rfl hone ?_
           have l3_ := lt_of_row R3
           replace RH := (setRow_other q5 (g6) (w.heap.size) #[.int .i64 0, .int .i64 0, .int .i64 0] (by omega)).trans RH
           replace R3 := (setRow_other q5 (g6) (w.heap.size + 1) #[.int .i64 0, .int .i64 0, .int .i64 0] (by omega)).trans R3
           replace hU2 : Own (q5.setRow g6 #[.int .i64 0, .int .i64 0, .int .i64 0]) w.heap.size (.slice ua L.length uc) L := own_but hU2 fun q hq => setRow_other q5 (g6) q _ (by have := hne q hq; omega)
           replace hw := below_setRow hw (show w.heap.size ≤ g6 by omega) #[.int .i64 0, .int .i64 0, .int .i64 0]
           refine hK_ _ _ (RH) ?_
           simp only [Act.put, List.getElem_toArray, List.getElem_cons_succ, List.getElem_cons_zero]
           clear hK_
           generalize q5.setRow g6 #[.int .i64 0, .int .i64 0, .int .i64 0] = q7 at *
           refine wpAnyH_done (by kernel_rfl) ?_ _
           refine NoPanic.normal ?_
           have RX := hide (setRow_heap q7 (w.heap.size + 1) _ #[.int .i64 0, .int .i64 0, .int .i64 0] _ _ R3)
           have A1 : Hid (Own (q7.setRow (w.heap.size + 1) #[.int .i64 0, .int .i64 0, .int .i64 0]) w.heap.size (.slice ua L.length uc) L) := hide (own_but hU2 fun q hq => setRow_other q7 (w.heap.size + 1) q _ (by have := hne3 q hq; omega))
           have A2 := hide (below_setRow hw (show w.heap.size ≤ w.heap.size + 1 by omega) #[.int .i64 0, .int .i64 0, .int .i64 0])
           clear hU2 hw RH RF hne hne3
           go_wp2_with (first | (refine wpList_build_want rfl 35 _ rfl [] rfl #[.int .i64 0, .int .i64 0, .int .i64 0] builtZeR ?_) | (refine wpList_store_row rfl 35 _ _ rfl (w.heap.size + 1) #[.int .i64 0, .int .i64 0, .int .i64 0] rfl rfl 35 _ R3 infoFt rfl hone ?_) | fail)
           refine bodyPost_ret (results_slot_cell Tryz.results19 _ _ (w.heap.size + 1) _ _ _ _ rfl RX.out Tryz.underlying35 rfl infoFt) rfl ⟨⟨.slice ua L.length uc, ?_, ?_⟩, A2.out⟩
           · rw [hpk.out]; rfl
           · rw [hpk.out]
             show Own _ _ _ (eout (efs 1 nonce hd bd))
             rw [hL.out]
             exact A1.out
         · refine wp_world_op (.pointer (some ⟨q2.heap.size, 0, none⟩)) (q2.alloc (.cells #[.int .i64 0, .int .i64 0, .int .i64 0] 35)) (by kernel_rfl) ?_
           have hb_ : Below q2.heap.size q2 (q2.alloc (.cells #[.int .i64 0, .int .i64 0, .int .i64 0] 35)) := (Below.refl _ _).alloc (Nat.le_refl _) _
           have sz_g10 : w.heap.size ≤ q2.heap.size := hw.size
           have lt_RH_g10 := lt_of_row RH
           have lt_R3_g10 := lt_of_row R3
           have RF := hp1_0 q2 (.cells #[.int .i64 0, .int .i64 0, .int .i64 0] 35)
           replace RH := keep hb_ RH
           replace R3 := keep hb_ R3
           replace hH := hH.keep hb_
           replace hB := hB.keep hb_
           replace hC := rdc_keepH hC hb_
           replace hPs := hPs.keep hb_
           replace hw := Below.after hw hb_
           clear hb_
           refine hK_ _ _ (RH) ?_
           simp only [Act.put, List.getElem_toArray, List.getElem_cons_succ, List.getElem_cons_zero, List.setIfInBounds_toArray, List.set_cons_succ, List.set_cons_zero]
           clear hK_
           generalize q2.alloc (.cells #[.int .i64 0, .int .i64 0, .int .i64 0] 35) = q9 at *
           generalize q2.heap.size = g10 at *
           refine wpAnyH_one (k := 18) (fuel := 5) (by kernel_rfl) rfl (by kernel_rfl) (fun K_ hK_ => ?_)
           have cE := r_EncodeF esl1_flat (by decide) none 0 (.slice (some ⟨gp, 0, none⟩) 4 4) (exs 1 (w.heap.size) ha 60 hc ba bn bc) [[], nonce, hd, bd] rfl (esl_chk 1 _ _ _ _ _ _ h80 hmo) q9 hC (exs_prt (by decide) (by decide) (by have := hB.bn; omega) hPs) (exs_bys (by decide) hn RH hH hB b1 b2)
           rw [exs_fdk] at cE
           have cE2 := cE.mono (fun e w' h => (by obtain ⟨u, e1, e2, e3⟩ := h; exact ⟨_, e1, u, rfl, e2, e3⟩ : ∃ v, e = .returned v ∧ ∃ u, v = .tuple #[u, .agg #[.int .i64 0, .int .i64 0, .int .i64 0]] ∧ Own w' q9.heap.size u (eout (efs 1 nonce hd bd)) ∧ Below q9.heap.size q9 w'))
           refine wp_call_ex (R := fun v w' => ∃ u, v = .tuple #[u, .agg #[.int .i64 0, .int .i64 0, .int .i64 0]] ∧ Own w' q9.heap.size u (eout (efs 1 nonce hd bd)) ∧ Below q9.heap.size q9 w') (by kernel_rfl) cE2 (fun v_ q11 hX_ => ?_)
           obtain ⟨u, rfl, hU, hb_⟩ := hX_
           have hU2 := own_down hU hw.size
           have hne3 : ∀ k, u.ownBlock = some k → k ≠ w.heap.size + 1 := fun k e => by have := own_low hU k e; have := lt_of_row R3; omega
           have hne : ∀ k, u.ownBlock = some k → k ≠ g10 := fun k e => by have := own_low hU k e; have := lt_of_row RF; omega
           clear cE cE2 hC hPs
           replace RH := keep hb_ RH
           replace R3 := keep hb_ R3
           replace RF := keep hb_ RF
           replace hw := Below.after hw hb_
           clear hb_ hU hH hB
           obtain ⟨L, hL⟩ : ∃ L, (eout (efs 1 nonce hd bd)) = L := ⟨_, rfl⟩
           rw [hL] at hU2
           replace hL := hide hL
           obtain ⟨ua, uc, rfl⟩ := slen_own hU2
           refine hK_ _ _ (RH) ?_
           simp only [Act.put, List.getElem_toArray, List.getElem_cons_succ, List.getElem_cons_zero, List.setIfInBounds_toArray, List.set_cons_succ, List.set_cons_zero]
           clear hK_
           refine wpAnyH_take (i := 19) (v := ?v129) rfl (by kernel_rfl) (by kernel_rfl) (by kernel_rfl) (fun _ _ _ h => h) (Or.inl ⟨by rfl, ?y129⟩) (RH) ?r129
           case y129 =>
             intro w_ hS_
             go_simp
             try with_reducible rfl
           simp only [Act.put, List.getElem_toArray, List.getElem_cons_succ, List.getElem_cons_zero, List.setIfInBounds_toArray, List.set_cons_succ, List.set_cons_zero]
           refine wpAnyH_take (i := 20) (v := ?v130) rfl (by kernel_rfl) (by kernel_rfl) (by kernel_rfl) (fun _ _ _ h => h) (Or.inl ⟨by rfl, ?y130⟩) (RH) ?r130
           case y130 =>
             intro w_ hS_
             go_simp
             try with_reducible rfl
           simp only [Act.put, List.getElem_toArray, List.getElem_cons_succ, List.getElem_cons_zero, List.setIfInBounds_toArray, List.set_cons_succ, List.set_cons_zero]
           refine wpAnyH_take (i := 21) (v := ?v131) rfl (by kernel_rfl) (by kernel_rfl) (by kernel_rfl) (fun _ _ _ h => h) (Or.inl ⟨by rfl, ?y131⟩) (RH) ?r131
           case y131 =>
             intro w_ hS_
             go_simp
             try with_reducible rfl
           simp only [Act.put, List.getElem_toArray, List.getElem_cons_succ, List.getElem_cons_zero, List.setIfInBounds_toArray, List.set_cons_succ, List.set_cons_zero]
           refine wpAnyH_take (i := 23) (v := ?v132) rfl (by kernel_rfl) (by kernel_rfl) (by kernel_rfl) (fun _ _ _ h => h) (Or.inl ⟨by rfl, ?y132⟩) (RH) ?r132
           case y132 =>
             intro w_ hS_
             go_simp
             try with_reducible rfl
           simp only [Act.put, List.getElem_toArray, List.getElem_cons_succ, List.getElem_cons_zero, List.setIfInBounds_toArray, List.set_cons_succ, List.set_cons_zero]
           refine wpAnyH_one (k := 24) (fuel := 0) (by kernel_rfl) rfl (by kernel_rfl) (fun K_ hK_ => ?_)
           refine wp_store_row 35 _ _ rfl (g10) #[.int .i64 0, .int .i64 0, .int .i64 0] rfl rfl 35 _ RF infoFt rfl hone ?_
           have l3_ := lt_of_row R3
           replace RH := (setRow_other q11 (g10) (w.heap.size) #[.int .i64 0, .int .i64 0, .int .i64 0] (by omega)).trans RH
           replace R3 := (setRow_other q11 (g10) (w.heap.size + 1) #[.int .i64 0, .int .i64 0, .int .i64 0] (by omega)).trans R3
           replace hU2 : Own (q11.setRow g10 #[.int .i64 0, .int .i64 0, .int .i64 0]) w.heap.size (.slice ua L.length uc) L := own_but hU2 fun q hq => setRow_other q11 (g10) q _ (by have := hne q hq; omega)
           replace hw := below_setRow hw (show w.heap.size ≤ g10 by omega) #[.int .i64 0, .int .i64 0, .int .i64 0]
           refine hK_ _ _ (RH) ?_
           simp only [Act.put, List.getElem_toArray, List.getElem_cons_succ, List.getElem_cons_zero]
           clear hK_
           generalize q11.setRow g10 #[.int .i64 0, .int .i64 0, .int .i64 0] = q12 at *
           refine wpAnyH_done (by kernel_rfl) ?_ _
           refine NoPanic.normal ?_
           have RX := hide (setRow_heap q12 (w.heap.size + 1) _ #[.int .i64 0, .int .i64 0, .int .i64 0] _ _ R3)
           have A1 : Hid (Own (q12.setRow (w.heap.size + 1) #[.int .i64 0, .int .i64 0, .int .i64 0]) w.heap.size (.slice ua L.length uc) L) := hide (own_but hU2 fun q hq => setRow_other q12 (w.heap.size + 1) q _ (by have := hne3 q hq; omega))
           have A2 := hide (below_setRow hw (show w.heap.size ≤ w.heap.size + 1 by omega) #[.int .i64 0, .int .i64 0, .int .i64 0])
           clear hU2 hw RH RF hne hne3
           go_wp2_with (first | (refine wpList_build_want rfl 35 _ rfl [] rfl #[.int .i64 0, .int .i64 0, .int .i64 0] builtZeR ?_) | (refine wpList_store_row rfl 35 _ _ rfl (w.heap.size + 1) #[.int .i64 0, .int .i64 0, .int .i64 0] rfl rfl 35 _ R3 infoFt rfl hone ?_) | fail)
           refine bodyPost_ret (results_slot_cell Tryz.results19 _ _ (w.heap.size + 1) _ _ _ _ rfl RX.out Tryz.underlying35 rfl infoFt) rfl ⟨⟨.slice ua L.length uc, ?_, ?_⟩, A2.out⟩
           · rw [hpk.out]; rfl
           · rw [hpk.out]
             show Own _ _ _ (eout (efs 1 nonce hd bd))
             rw [hL.out]
             exact A1.out
       · refine wp_world_op (.pointer (some ⟨q1.heap.size, 0, none⟩)) (q1.alloc (.cells #[.int .i64 0, .int .i64 0, .int .i64 0] 35)) (by kernel_rfl) ?_
         have hb_ : Below q1.heap.size q1 (q1.alloc (.cells #[.int .i64 0, .int .i64 0, .int .i64 0] 35)) := (Below.refl _ _).alloc (Nat.le_refl _) _
         have sz_g15 : w.heap.size ≤ q1.heap.size := hw.size
         have lt_RH_g15 := lt_of_row RH
         have lt_R3_g15 := lt_of_row R3
         have RF := hp1_0 q1 (.cells #[.int .i64 0, .int .i64 0, .int .i64 0] 35)
         replace RH := keep hb_ RH
         replace R3 := keep hb_ R3
         replace hH := hH.keep hb_
         replace hB := hB.keep hb_
         replace hC := rdc_keepH hC hb_
         replace hw := Below.after hw hb_
         clear hb_
         refine hK_ _ _ (RH) ?_
         simp only [Act.put, List.getElem_toArray, List.getElem_cons_succ, List.getElem_cons_zero, List.setIfInBounds_toArray, List.set_cons_succ, List.set_cons_zero]
         clear hK_
         generalize q1.alloc (.cells #[.int .i64 0, .int .i64 0, .int .i64 0] 35) = q14 at *
         generalize q1.heap.size = g15 at *
         refine wpAnyH_one (k := 16) (fuel := 7) (by kernel_rfl) rfl (by kernel_rfl) (fun K_ hK_ => ?_)
         refine wp_val_op (.slice (some ⟨q14.heap.size, 0, none⟩) 4 4) (w' := q14.alloc (.cells #[.int .u64 1, .slice none 0 0, .slice none 0 0, .int .u64 0, .slice (some ⟨w.heap.size, 1, none⟩) 16 16, .slice none 0 0, .int .u64 0, .slice ha 60 hc, .slice none 0 0, .int .u64 0, .slice ba bn bc, .slice none 0 0] 76)) (by kernel_rfl) ?_
         have hPs : Bx (q14.alloc (.cells #[.int .u64 1, .slice none 0 0, .slice none 0 0, .int .u64 0, .slice (some ⟨w.heap.size, 1, none⟩) 16 16, .slice none 0 0, .int .u64 0, .slice ha 60 hc, .slice none 0 0, .int .u64 0, .slice ba bn bc, .slice none 0 0] 76)) q14.heap.size #[.int .u64 1, .slice none 0 0, .slice none 0 0, .int .u64 0, .slice (some ⟨w.heap.size, 1, none⟩) 16 16, .slice none 0 0, .int .u64 0, .slice ha 60 hc, .slice none 0 0, .int .u64 0, .slice ba bn bc, .slice none 0 0] := ⟨_, hp1_0 q14 _⟩
         have hb_ : Below q14.heap.size q14 (q14.alloc (.cells #[.int .u64 1, .slice none 0 0, .slice none 0 0, .int .u64 0, .slice (some ⟨w.heap.size, 1, none⟩) 16 16, .slice none 0 0, .int .u64 0, .slice ha 60 hc, .slice none 0 0, .int .u64 0, .slice ba bn bc, .slice none 0 0] 76)) := (Below.refl _ _).alloc (Nat.le_refl _) _
         replace RH := keep hb_ RH
         replace R3 := keep hb_ R3
         replace RF := keep hb_ RF
         replace hH := hH.keep hb_
         replace hB := hB.keep hb_
         replace hC := rdc_keepH hC hb_
         replace hw := Below.after hw hb_
         clear hb_
         refine hK_ _ _ (RH) ?_
         simp only [Act.put, List.getElem_toArray, List.getElem_cons_succ, List.getElem_cons_zero, List.setIfInBounds_toArray, List.set_cons_succ, List.set_cons_zero]
         clear hK_
         generalize q14.alloc (.cells #[.int .u64 1, .slice none 0 0, .slice none 0 0, .int .u64 0, .slice (some ⟨w.heap.size, 1, none⟩) 16 16, .slice none 0 0, .int .u64 0, .slice ha 60 hc, .slice none 0 0, .int .u64 0, .slice ba bn bc, .slice none 0 0] 76) = q16 at *
         generalize q14.heap.size = gp at *
         refine wpAnyH_take (i := 17) (v := .agg #[.int .u64 0, .slice none 0 0, .slice (some ⟨gp, 0, none⟩) 4 4]) rfl (by kernel_rfl) (by kernel_rfl) (by kernel_rfl) (fun _ _ _ h => h) (Or.inl ⟨by rfl, ?y133⟩) (RH) ?r133
         case y133 =>
           intro w_ hS_
           go_simp
           try with_reducible rfl
         simp only [Act.put, List.getElem_toArray, List.getElem_cons_succ, List.getElem_cons_zero, List.setIfInBounds_toArray, List.set_cons_succ, List.set_cons_zero]
         refine wpAnyH_one (k := 18) (fuel := 5) (by kernel_rfl) rfl (by kernel_rfl) (fun K_ hK_ => ?_)
         have cE := r_EncodeF esl1_flat (by decide) none 0 (.slice (some ⟨gp, 0, none⟩) 4 4) (exs 1 (w.heap.size) ha 60 hc ba bn bc) [[], nonce, hd, bd] rfl (esl_chk 1 _ _ _ _ _ _ h80 hmo) q16 hC (exs_prt (by decide) (by decide) (by have := hB.bn; omega) hPs) (exs_bys (by decide) hn RH hH hB b1 b2)
         rw [exs_fdk] at cE
         have cE2 := cE.mono (fun e w' h => (by obtain ⟨u, e1, e2, e3⟩ := h; exact ⟨_, e1, u, rfl, e2, e3⟩ : ∃ v, e = .returned v ∧ ∃ u, v = .tuple #[u, .agg #[.int .i64 0, .int .i64 0, .int .i64 0]] ∧ Own w' q16.heap.size u (eout (efs 1 nonce hd bd)) ∧ Below q16.heap.size q16 w'))
         refine wp_call_ex (R := fun v w' => ∃ u, v = .tuple #[u, .agg #[.int .i64 0, .int .i64 0, .int .i64 0]] ∧ Own w' q16.heap.size u (eout (efs 1 nonce hd bd)) ∧ Below q16.heap.size q16 w') (by kernel_rfl) cE2 (fun v_ q17 hX_ => ?_)
         obtain ⟨u, rfl, hU, hb_⟩ := hX_
         have hU2 := own_down hU hw.size
         have hne3 : ∀ k, u.ownBlock = some k → k ≠ w.heap.size + 1 := fun k e => by have := own_low hU k e; have := lt_of_row R3; omega
         have hne : ∀ k, u.ownBlock = some k → k ≠ g15 := fun k e => by have := own_low hU k e; have := lt_of_row RF; omega
         clear cE cE2 hC hPs
         replace RH := keep hb_ RH
         replace R3 := keep hb_ R3
         replace RF := keep hb_ RF
         replace hw := Below.after hw hb_
         clear hb_ hU hH hB
         obtain ⟨L, hL⟩ : ∃ L, (eout (efs 1 nonce hd bd)) = L := ⟨_, rfl⟩
         rw [hL] at hU2
         replace hL := hide hL
         obtain ⟨ua, uc, rfl⟩ := slen_own hU2
         refine hK_ _ _ (RH) ?_
         simp only [Act.put, List.getElem_toArray, List.getElem_cons_succ, List.getElem_cons_zero, List.setIfInBounds_toArray, List.set_cons_succ, List.set_cons_zero]
         clear hK_
         refine wpAnyH_take (i := 19) (v := ?v134) rfl (by kernel_rfl) (by kernel_rfl) (by kernel_rfl) (fun _ _ _ h => h) (Or.inl ⟨by rfl, ?y134⟩) (RH) ?r134
         case y134 =>
           intro w_ hS_
           go_simp
           try with_reducible rfl
         simp only [Act.put, List.getElem_toArray, List.getElem_cons_succ, List.getElem_cons_zero, List.setIfInBounds_toArray, List.set_cons_succ, List.set_cons_zero]
         refine wpAnyH_take (i := 20) (v := ?v135) rfl (by kernel_rfl) (by kernel_rfl) (by kernel_rfl) (fun _ _ _ h => h) (Or.inl ⟨by rfl, ?y135⟩) (RH) ?r135
         case y135 =>
           intro w_ hS_
           go_simp
           try with_reducible rfl
         simp only [Act.put, List.getElem_toArray, List.getElem_cons_succ, List.getElem_cons_zero, List.setIfInBounds_toArray, List.set_cons_succ, List.set_cons_zero]
         refine wpAnyH_take (i := 21) (v := ?v136) rfl (by kernel_rfl) (by kernel_rfl) (by kernel_rfl) (fun _ _ _ h => h) (Or.inl ⟨by rfl, ?y136⟩) (RH) ?r136
         case y136 =>
           intro w_ hS_
           go_simp
           try with_reducible rfl
         simp only [Act.put, List.getElem_toArray, List.getElem_cons_succ, List.getElem_cons_zero, List.setIfInBounds_toArray, List.set_cons_succ, List.set_cons_zero]
         refine wpAnyH_take (i := 23) (v := ?v137) rfl (by kernel_rfl) (by kernel_rfl) (by kernel_rfl) (fun _ _ _ h => h) (Or.inl ⟨by rfl, ?y137⟩) (RH) ?r137
         case y137 =>
           intro w_ hS_
           go_simp
           try with_reducible rfl
         simp only [Act.put, List.getElem_toArray, List.getElem_cons_succ, List.getElem_cons_zero, List.setIfInBounds_toArray, List.set_cons_succ, List.set_cons_zero]
         refine wpAnyH_one (k := 24) (fuel := 0) (by kernel_rfl) rfl (by kernel_rfl) (fun K_ hK_ => ?_)
         refine wp_store_row 35 _ _ rfl (g15) #[.int .i64 0, .int .i64 0, .int .i64 0] rfl rfl 35 _ RF infoFt rfl hone ?_
         have l3_ := lt_of_row R3
         replace RH := (setRow_other q17 (g15) (w.heap.size) #[.int .i64 0, .int .i64 0, .int .i64 0] (by omega)).trans RH
         replace R3 := (setRow_other q17 (g15) (w.heap.size + 1) #[.int .i64 0, .int .i64 0, .int .i64 0] (by omega)).trans R3
         replace hU2 : Own (q17.setRow g15 #[.int .i64 0, .int .i64 0, .int .i64 0]) w.heap.size (.slice ua L.length uc) L := own_but hU2 fun q hq => setRow_other q17 (g15) q _ (by have := hne q hq; omega)
         replace hw := below_setRow hw (show w.heap.size ≤ g15 by omega) #[.int .i64 0, .int .i64 0, .int .i64 0]
         refine hK_ _ _ (RH) ?_
         simp only [Act.put, List.getElem_toArray, List.getElem_cons_succ, List.getElem_cons_zero]
         clear hK_
         generalize q17.setRow g15 #[.int .i64 0, .int .i64 0, .int .i64 0] = q18 at *
         refine wpAnyH_done (by kernel_rfl) ?_ _
         refine NoPanic.normal ?_
         have RX := hide (setRow_heap q18 (w.heap.size + 1) _ #[.int .i64 0, .int .i64 0, .int .i64 0] _ _ R3)
         have A1 : Hid (Own (q18.setRow (w.heap.size + 1) #[.int .i64 0, .int .i64 0, .int .i64 0]) w.heap.size (.slice ua L.length uc) L) := hide (own_but hU2 fun q hq => setRow_other q18 (w.heap.size + 1) q _ (by have := hne3 q hq; omega))
         have A2 := hide (below_setRow hw (show w.heap.size ≤ w.heap.size + 1 by omega) #[.int .i64 0, .int .i64 0, .int .i64 0])
         clear hU2 hw RH RF hne hne3
         go_wp2_with (first | (refine wpList_build_want rfl 35 _ rfl [] rfl #[.int .i64 0, .int .i64 0, .int .i64 0] builtZeR ?_) | (refine wpList_store_row rfl 35 _ _ rfl (w.heap.size + 1) #[.int .i64 0, .int .i64 0, .int .i64 0] rfl rfl 35 _ R3 infoFt rfl hone ?_) | fail)
         refine bodyPost_ret (results_slot_cell Tryz.results19 _ _ (w.heap.size + 1) _ _ _ _ rfl RX.out Tryz.underlying35 rfl infoFt) rfl ⟨⟨.slice ua L.length uc, ?_, ?_⟩, A2.out⟩
         · rw [hpk.out]; rfl
         · rw [hpk.out]
           show Own _ _ _ (eout (efs 1 nonce hd bd))
           rw [hL.out]
           exact A1.out
     · refine wp_val_op (.slice (some ⟨w1.heap.size, 0, none⟩) 4 4) (w' := w1.alloc (.cells #[.int .u64 1, .slice none 0 0, .slice none 0 0, .int .u64 0, .slice (some ⟨w.heap.size, 1, none⟩) 16 16, .slice none 0 0, .int .u64 0, .slice ha 60 hc, .slice none 0 0, .int .u64 0, .slice ba bn bc, .slice none 0 0] 76)) (by kernel_rfl) ?_
       have hPs : Bx (w1.alloc (.cells #[.int .u64 1, .slice none 0 0, .slice none 0 0, .int .u64 0, .slice (some ⟨w.heap.size, 1, none⟩) 16 16, .slice none 0 0, .int .u64 0, .slice ha 60 hc, .slice none 0 0, .int .u64 0, .slice ba bn bc, .slice none 0 0] 76)) w1.heap.size #[.int .u64 1, .slice none 0 0, .slice none 0 0, .int .u64 0, .slice (some ⟨w.heap.size, 1, none⟩) 16 16, .slice none 0 0, .int .u64 0, .slice ha 60 hc, .slice none 0 0, .int .u64 0, .slice ba bn bc, .slice none 0 0] := ⟨_, hp1_0 w1 _⟩
       have hb_ : Below w1.heap.size w1 (w1.alloc (.cells #[.int .u64 1, .slice none 0 0, .slice none 0 0, .int .u64 0, .slice (some ⟨w.heap.size, 1, none⟩) 16 16, .slice none 0 0, .int .u64 0, .slice ha 60 hc, .slice none 0 0, .int .u64 0, .slice ba bn bc, .slice none 0 0] 76)) := (Below.refl _ _).alloc (Nat.le_refl _) _
       replace RH := keep hb_ RH
       replace R3 := keep hb_ R3
       replace hH := hH.keep hb_
       replace hB := hB.keep hb_
       replace hw := Below.after hw hb_
       clear hb_
       refine hK_ _ _ (RH) ?_
       simp only [Act.put, List.getElem_toArray, List.getElem_cons_succ, List.getElem_cons_zero, List.setIfInBounds_toArray, List.set_cons_succ, List.set_cons_zero]
       clear hK_
       generalize w1.alloc (.cells #[.int .u64 1, .slice none 0 0, .slice none 0 0, .int .u64 0, .slice (some ⟨w.heap.size, 1, none⟩) 16 16, .slice none 0 0, .int .u64 0, .slice ha 60 hc, .slice none 0 0, .int .u64 0, .slice ba bn bc, .slice none 0 0] 76) = q19 at *
       generalize w1.heap.size = gp at *
       refine wpAnyH_take (i := 17) (v := .agg #[.int .u64 0, .slice none 0 0, .slice (some ⟨gp, 0, none⟩) 4 4]) rfl (by kernel_rfl) (by kernel_rfl) (by kernel_rfl) (fun _ _ _ h => h) (Or.inl ⟨by rfl, ?y138⟩) (RH) ?r138
       case y138 =>
         intro w_ hS_
         go_simp
         try with_reducible rfl
       simp only [Act.put, List.getElem_toArray, List.getElem_cons_succ, List.getElem_cons_zero, List.setIfInBounds_toArray, List.set_cons_succ, List.set_cons_zero]
       refine wpAnyH_two (j := 2) (k := 22) (fuel := 7) (by kernel_rfl) rfl rfl (by kernel_rfl) (by kernel_rfl) (fun K_ hK_ => ?_) (fun K_ hK_ => ?_)
       · have cH := (r_shapeE1 q19).mono (fun e w' h => (by obtain ⟨x, h1, ⟨q, h2, _, h3⟩, h4⟩ := h; exact ⟨_, h1, q, h2, h3, h4⟩ : ∃ v, e = .returned v ∧ ∃ q, v = .pointer (some ⟨q, 0, none⟩) ∧ Rdc w' q (esl 1) ∧ Below q19.heap.size q19 w'))
         refine wp_call_ex (R := fun v w' => ∃ q, v = .pointer (some ⟨q, 0, none⟩) ∧ Rdc w' q (esl 1) ∧ Below q19.heap.size q19 w') (by kernel_rfl) cH (fun v_ q20 hX_ => ?_)
         obtain ⟨q, rfl, hC, hb_⟩ := hX_
         replace RH := keep hb_ RH
         replace R3 := keep hb_ R3
         replace hH := hH.keep hb_
         replace hB := hB.keep hb_
         replace hPs := hPs.keep hb_
         replace hw := Below.after hw hb_
         clear hb_ cH
         refine hK_ _ _ (RH) ?_
         simp only [Act.put, List.getElem_toArray, List.getElem_cons_succ, List.getElem_cons_zero, List.setIfInBounds_toArray, List.set_cons_succ, List.set_cons_zero]
         clear hK_
         refine wpAnyH_two (j := 18) (k := 22) (fuel := 6) (by kernel_rfl) rfl rfl (by kernel_rfl) (by kernel_rfl) (fun K_ hK_ => ?_) (fun K_ hK_ => ?_)
         · have cE := r_EncodeF esl1_flat (by decide) none 0 (.slice (some ⟨gp, 0, none⟩) 4 4) (exs 1 (w.heap.size) ha 60 hc ba bn bc) [[], nonce, hd, bd] rfl (esl_chk 1 _ _ _ _ _ _ h80 hmo) q20 hC (exs_prt (by decide) (by decide) (by have := hB.bn; omega) hPs) (exs_bys (by decide) hn RH hH hB b1 b2)
           rw [exs_fdk] at cE
           have cE2 := cE.mono (fun e w' h => (by obtain ⟨u, e1, e2, e3⟩ := h; exact ⟨_, e1, u, rfl, e2, e3⟩ : ∃ v, e = .returned v ∧ ∃ u, v = .tuple #[u, .agg #[.int .i64 0, .int .i64 0, .int .i64 0]] ∧ Own w' q20.heap.size u (eout (efs 1 nonce hd bd)) ∧ Below q20.heap.size q20 w'))
           refine wp_call_ex (R := fun v w' => ∃ u, v = .tuple #[u, .agg #[.int .i64 0, .int .i64 0, .int .i64 0]] ∧ Own w' q20.heap.size u (eout (efs 1 nonce hd bd)) ∧ Below q20.heap.size q20 w') (by kernel_rfl) cE2 (fun v_ q21 hX_ => ?_)
           obtain ⟨u, rfl, hU, hb_⟩ := hX_
           have hU2 := own_down hU hw.size
           have hne3 : ∀ k, u.ownBlock = some k → k ≠ w.heap.size + 1 := fun k e => by have := own_low hU k e; have := lt_of_row R3; omega
           clear cE cE2 hC hPs
           replace RH := keep hb_ RH
           replace R3 := keep hb_ R3
           replace hw := Below.after hw hb_
           clear hb_ hU hH hB
           obtain ⟨L, hL⟩ : ∃ L, (eout (efs 1 nonce hd bd)) = L := ⟨_, rfl⟩
           rw [hL] at hU2
           replace hL := hide hL
           obtain ⟨ua, uc, rfl⟩ := slen_own hU2
           refine hK_ _ _ (RH) ?_
           simp only [Act.put, List.getElem_toArray, List.getElem_cons_succ, List.getElem_cons_zero, List.setIfInBounds_toArray, List.set_cons_succ, List.set_cons_zero]
           clear hK_
           refine wpAnyH_take (i := 19) (v := ?v139) rfl (by kernel_rfl) (by kernel_rfl) (by kernel_rfl) (fun _ _ _ h => h) (Or.inl ⟨by rfl, ?y139⟩) (RH) ?r139
           case y139 =>
             intro w_ hS_
             go_simp
             try with_reducible rfl
           simp only [Act.put, List.getElem_toArray, List.getElem_cons_succ, List.getElem_cons_zero, List.setIfInBounds_toArray, List.set_cons_succ, List.set_cons_zero]
           refine wpAnyH_take (i := 20) (v := ?v140) rfl (by kernel_rfl) (by kernel_rfl) (by kernel_rfl) (fun _ _ _ h => h) (Or.inl ⟨by rfl, ?y140⟩) (RH) ?r140
           case y140 =>
             intro w_ hS_
             go_simp
             try with_reducible rfl
           simp only [Act.put, List.getElem_toArray, List.getElem_cons_succ, List.getElem_cons_zero, List.setIfInBounds_toArray, List.set_cons_succ, List.set_cons_zero]
           refine wpAnyH_take (i := 21) (v := ?v141) rfl (by kernel_rfl) (by kernel_rfl) (by kernel_rfl) (fun _ _ _ h => h) (Or.inl ⟨by rfl, ?y141⟩) (RH) ?r141
           case y141 =>
             intro w_ hS_
             go_simp
             try with_reducible rfl
           simp only [Act.put, List.getElem_toArray, List.getElem_cons_succ, List.getElem_cons_zero, List.setIfInBounds_toArray, List.set_cons_succ, List.set_cons_zero]
           refine wpAnyH_one (k := 22) (fuel := 2) (by kernel_rfl) rfl (by kernel_rfl) (fun K_ hK_ => ?_)
           have hne0 := fun k e => (own_lt hU2 k e).2
           refine wp_world_op (.pointer (some ⟨q21.heap.size, 0, none⟩)) (q21.alloc (.cells #[.int .i64 0, .int .i64 0, .int .i64 0] 35)) (by kernel_rfl) ?_
           have hb_ : Below q21.heap.size q21 (q21.alloc (.cells #[.int .i64 0, .int .i64 0, .int .i64 0] 35)) := (Below.refl _ _).alloc (Nat.le_refl _) _
           have sz_g24 : w.heap.size ≤ q21.heap.size := hw.size
           have lt_RH_g24 := lt_of_row RH
           have lt_R3_g24 := lt_of_row R3
           have RF := hp1_0 q21 (.cells #[.int .i64 0, .int .i64 0, .int .i64 0] 35)
           replace RH := keep hb_ RH
           replace R3 := keep hb_ R3
           replace hU2 := hU2.keep hb_
           replace hw := Below.after hw hb_
           clear hb_
           refine hK_ _ _ (RH) ?_
           simp only [Act.put, List.getElem_toArray, List.getElem_cons_succ, List.getElem_cons_zero, List.setIfInBounds_toArray, List.set_cons_succ, List.set_cons_zero]
           clear hK_
           generalize q21.alloc (.cells #[.int .i64 0, .int .i64 0, .int .i64 0] 35) = q23 at *
           generalize q21.heap.size = g24 at *
           have hne : ∀ k, (Value.slice ua L.length uc).ownBlock = some k → k ≠ g24 := fun k e => by have := hne0 k e; omega
           refine wpAnyH_take (i := 23) (v := ?v142) rfl (by kernel_rfl) (by kernel_rfl) (by kernel_rfl) (fun _ _ _ h => h) (Or.inl ⟨by rfl, ?y142⟩) (RH) ?r142
           case y142 =>
             intro w_ hS_
             go_simp
             try with_reducible rfl
           simp only [Act.put, List.getElem_toArray, List.getElem_cons_succ, List.getElem_cons_zero, List.setIfInBounds_toArray, List.set_cons_succ, List.set_cons_zero]
           refine wpAnyH_one (k := 24) (fuel := 0) (by kernel_rfl) rfl (by kernel_rfl) (fun K_ hK_ => ?_)
           refine wp_store_row 35 _ _ rfl (g24) #[.int .i64 0, .int .i64 0, .int .i64 0] rfl rfl 35 _ RF infoFt rfl hone ?_
           have l3_ := lt_of_row R3
           replace RH := (setRow_other q23 (g24) (w.heap.size) #[.int .i64 0, .int .i64 0, .int .i64 0] (by omega)).trans RH
           replace R3 := (setRow_other q23 (g24) (w.heap.size + 1) #[.int .i64 0, .int .i64 0, .int .i64 0] (by omega)).trans R3
           replace hU2 : Own (q23.setRow g24 #[.int .i64 0, .int .i64 0, .int .i64 0]) w.heap.size (.slice ua L.length uc) L := own_but hU2 fun q hq => setRow_other q23 (g24) q _ (by have := hne q hq; omega)
           replace hw := below_setRow hw (show w.heap.size ≤ g24 by omega) #[.int .i64 0, .int .i64 0, .int .i64 0]
           refine hK_ _ _ (RH) ?_
           simp only [Act.put, List.getElem_toArray, List.getElem_cons_succ, List.getElem_cons_zero]
           clear hK_
           generalize q23.setRow g24 #[.int .i64 0, .int .i64 0, .int .i64 0] = q25 at *
           refine wpAnyH_done (by kernel_rfl) ?_ _
           refine NoPanic.normal ?_
           have RX := hide (setRow_heap q25 (w.heap.size + 1) _ #[.int .i64 0, .int .i64 0, .int .i64 0] _ _ R3)
           have A1 : Hid (Own (q25.setRow (w.heap.size + 1) #[.int .i64 0, .int .i64 0, .int .i64 0]) w.heap.size (.slice ua L.length uc) L) := hide (own_but hU2 fun q hq => setRow_other q25 (w.heap.size + 1) q _ (by have := hne3 q hq; omega))
           have A2 := hide (below_setRow hw (show w.heap.size ≤ w.heap.size + 1 by omega) #[.int .i64 0, .int .i64 0, .int .i64 0])
           clear hU2 hw RH RF hne hne3
           go_wp2_with (first | (refine wpList_build_want rfl 35 _ rfl [] rfl #[.int .i64 0, .int .i64 0, .int .i64 0] builtZeR ?_) | (refine wpList_store_row rfl 35 _ _ rfl (w.heap.size + 1) #[.int .i64 0, .int .i64 0, .int .i64 0] rfl rfl 35 _ R3 infoFt rfl hone ?_) | fail)
           refine bodyPost_ret (results_slot_cell Tryz.results19 _ _ (w.heap.size + 1) _ _ _ _ rfl RX.out Tryz.underlying35 rfl infoFt) rfl ⟨⟨.slice ua L.length uc, ?_, ?_⟩, A2.out⟩
           · rw [hpk.out]; rfl
           · rw [hpk.out]
             show Own _ _ _ (eout (efs 1 nonce hd bd))
             rw [hL.out]
             exact A1.out
         · refine wp_world_op (.pointer (some ⟨q20.heap.size, 0, none⟩)) (q20.alloc (.cells #[.int .i64 0, .int .i64 0, .int .i64 0] 35)) (by kernel_rfl) ?_
           have hb_ : Below q20.heap.size q20 (q20.alloc (.cells #[.int .i64 0, .int .i64 0, .int .i64 0] 35)) := (Below.refl _ _).alloc (Nat.le_refl _) _
           have sz_g28 : w.heap.size ≤ q20.heap.size := hw.size
           have lt_RH_g28 := lt_of_row RH
           have lt_R3_g28 := lt_of_row R3
           have RF := hp1_0 q20 (.cells #[.int .i64 0, .int .i64 0, .int .i64 0] 35)
           replace RH := keep hb_ RH
           replace R3 := keep hb_ R3
           replace hH := hH.keep hb_
           replace hB := hB.keep hb_
           replace hPs := hPs.keep hb_
           replace hC := rdc_keepH hC hb_
           replace hw := Below.after hw hb_
           clear hb_
           refine hK_ _ _ (RH) ?_
           simp only [Act.put, List.getElem_toArray, List.getElem_cons_succ, List.getElem_cons_zero, List.setIfInBounds_toArray, List.set_cons_succ, List.set_cons_zero]
           clear hK_
           generalize q20.alloc (.cells #[.int .i64 0, .int .i64 0, .int .i64 0] 35) = q27 at *
           generalize q20.heap.size = g28 at *
           refine wpAnyH_one (k := 18) (fuel := 5) (by kernel_rfl) rfl (by kernel_rfl) (fun K_ hK_ => ?_)
           have cE := r_EncodeF esl1_flat (by decide) none 0 (.slice (some ⟨gp, 0, none⟩) 4 4) (exs 1 (w.heap.size) ha 60 hc ba bn bc) [[], nonce, hd, bd] rfl (esl_chk 1 _ _ _ _ _ _ h80 hmo) q27 hC (exs_prt (by decide) (by decide) (by have := hB.bn; omega) hPs) (exs_bys (by decide) hn RH hH hB b1 b2)
           rw [exs_fdk] at cE
           have cE2 := cE.mono (fun e w' h => (by obtain ⟨u, e1, e2, e3⟩ := h; exact ⟨_, e1, u, rfl, e2, e3⟩ : ∃ v, e = .returned v ∧ ∃ u, v = .tuple #[u, .agg #[.int .i64 0, .int .i64 0, .int .i64 0]] ∧ Own w' q27.heap.size u (eout (efs 1 nonce hd bd)) ∧ Below q27.heap.size q27 w'))
           refine wp_call_ex (R := fun v w' => ∃ u, v = .tuple #[u, .agg #[.int .i64 0, .int .i64 0, .int .i64 0]] ∧ Own w' q27.heap.size u (eout (efs 1 nonce hd bd)) ∧ Below q27.heap.size q27 w') (by kernel_rfl) cE2 (fun v_ q29 hX_ => ?_)
           obtain ⟨u, rfl, hU, hb_⟩ := hX_
           have hU2 := own_down hU hw.size
           have hne3 : ∀ k, u.ownBlock = some k → k ≠ w.heap.size + 1 := fun k e => by have := own_low hU k e; have := lt_of_row R3; omega
           have hne : ∀ k, u.ownBlock = some k → k ≠ g28 := fun k e => by have := own_low hU k e; have := lt_of_row RF; omega
           clear cE cE2 hC hPs
           replace RH := keep hb_ RH
           replace R3 := keep hb_ R3
           replace RF := keep hb_ RF
           replace hw := Below.after hw hb_
           clear hb_ hU hH hB
           obtain ⟨L, hL⟩ : ∃ L, (eout (efs 1 nonce hd bd)) = L := ⟨_, rfl⟩
           rw [hL] at hU2
           replace hL := hide hL
           obtain ⟨ua, uc, rfl⟩ := slen_own hU2
           refine hK_ _ _ (RH) ?_
           simp only [Act.put, List.getElem_toArray, List.getElem_cons_succ, List.getElem_cons_zero, List.setIfInBounds_toArray, List.set_cons_succ, List.set_cons_zero]
           clear hK_
           refine wpAnyH_take (i := 19) (v := ?v143) rfl (by kernel_rfl) (by kernel_rfl) (by kernel_rfl) (fun _ _ _ h => h) (Or.inl ⟨by rfl, ?y143⟩) (RH) ?r143
           case y143 =>
             intro w_ hS_
             go_simp
             try with_reducible rfl
           simp only [Act.put, List.getElem_toArray, List.getElem_cons_succ, List.getElem_cons_zero, List.setIfInBounds_toArray, List.set_cons_succ, List.set_cons_zero]
           refine wpAnyH_take (i := 20) (v := ?v144) rfl (by kernel_rfl) (by kernel_rfl) (by kernel_rfl) (fun _ _ _ h => h) (Or.inl ⟨by rfl, ?y144⟩) (RH) ?r144
           case y144 =>
             intro w_ hS_
             go_simp
             try with_reducible rfl
           simp only [Act.put, List.getElem_toArray, List.getElem_cons_succ, List.getElem_cons_zero, List.setIfInBounds_toArray, List.set_cons_succ, List.set_cons_zero]
           refine wpAnyH_take (i := 21) (v := ?v145) rfl (by kernel_rfl) (by kernel_rfl) (by kernel_rfl) (fun _ _ _ h => h) (Or.inl ⟨by rfl, ?y145⟩) (RH) ?r145
           case y145 =>
             intro w_ hS_
             go_simp
             try with_reducible rfl
           simp only [Act.put, List.getElem_toArray, List.getElem_cons_succ, List.getElem_cons_zero, List.setIfInBounds_toArray, List.set_cons_succ, List.set_cons_zero]
           refine wpAnyH_take (i := 23) (v := ?v146) rfl (by kernel_rfl) (by kernel_rfl) (by kernel_rfl) (fun _ _ _ h => h) (Or.inl ⟨by rfl, ?y146⟩) (RH) ?r146
           case y146 =>
             intro w_ hS_
             go_simp
             try with_reducible rfl
           simp only [Act.put, List.getElem_toArray, List.getElem_cons_succ, List.getElem_cons_zero, List.setIfInBounds_toArray, List.set_cons_succ, List.set_cons_zero]
           refine wpAnyH_one (k := 24) (fuel := 0) (by kernel_rfl) rfl (by kernel_rfl) (fun K_ hK_ => ?_)
           refine wp_store_row 35 _ _ rfl (g28) #[.int .i64 0, .int .i64 0, .int .i64 0] rfl rfl 35 _ RF infoFt rfl hone ?_
           have l3_ := lt_of_row R3
           replace RH := (setRow_other q29 (g28) (w.heap.size) #[.int .i64 0, .int .i64 0, .int .i64 0] (by omega)).trans RH
           replace R3 := (setRow_other q29 (g28) (w.heap.size + 1) #[.int .i64 0, .int .i64 0, .int .i64 0] (by omega)).trans R3
           replace hU2 : Own (q29.setRow g28 #[.int .i64 0, .int .i64 0, .int .i64 0]) w.heap.size (.slice ua L.length uc) L := own_but hU2 fun q hq => setRow_other q29 (g28) q _ (by have := hne q hq; omega)
           replace hw := below_setRow hw (show w.heap.size ≤ g28 by omega) #[.int .i64 0, .int .i64 0, .int .i64 0]
           refine hK_ _ _ (RH) ?_
           simp only [Act.put, List.getElem_toArray, List.getElem_cons_succ, List.getElem_cons_zero]
           clear hK_
           generalize q29.setRow g28 #[.int .i64 0, .int .i64 0, .int .i64 0] = q30 at *
           refine wpAnyH_done (by kernel_rfl) ?_ _
           refine NoPanic.normal ?_
           have RX := hide (setRow_heap q30 (w.heap.size + 1) _ #[.int .i64 0, .int .i64 0, .int .i64 0] _ _ R3)
           have A1 : Hid (Own (q30.setRow (w.heap.size + 1) #[.int .i64 0, .int .i64 0, .int .i64 0]) w.heap.size (.slice ua L.length uc) L) := hide (own_but hU2 fun q hq => setRow_other q30 (w.heap.size + 1) q _ (by have := hne3 q hq; omega))
           have A2 := hide (below_setRow hw (show w.heap.size ≤ w.heap.size + 1 by omega) #[.int .i64 0, .int .i64 0, .int .i64 0])
           clear hU2 hw RH RF hne hne3
           go_wp2_with (first | (refine wpList_build_want rfl 35 _ rfl [] rfl #[.int .i64 0, .int .i64 0, .int .i64 0] builtZeR ?_) | (refine wpList_store_row rfl 35 _ _ rfl (w.heap.size + 1) #[.int .i64 0, .int .i64 0, .int .i64 0] rfl rfl 35 _ R3 infoFt rfl hone ?_) | fail)
           refine bodyPost_ret (results_slot_cell Tryz.results19 _ _ (w.heap.size + 1) _ _ _ _ rfl RX.out Tryz.underlying35 rfl infoFt) rfl ⟨⟨.slice ua L.length uc, ?_, ?_⟩, A2.out⟩
           · rw [hpk.out]; rfl
           · rw [hpk.out]
             show Own _ _ _ (eout (efs 1 nonce hd bd))
             rw [hL.out]
             exact A1.out
       · refine wp_world_op (.pointer (some ⟨q19.heap.size, 0, none⟩)) (q19.alloc (.cells #[.int .i64 0, .int .i64 0, .int .i64 0] 35)) (by kernel_rfl) ?_
         have hb_ : Below q19.heap.size q19 (q19.alloc (.cells #[.int .i64 0, .int .i64 0, .int .i64 0] 35)) := (Below.refl _ _).alloc (Nat.le_refl _) _
         have sz_g33 : w.heap.size ≤ q19.heap.size := hw.size
         have lt_RH_g33 := lt_of_row RH
         have lt_R3_g33 := lt_of_row R3
         have RF := hp1_0 q19 (.cells #[.int .i64 0, .int .i64 0, .int .i64 0] 35)
         replace RH := keep hb_ RH
         replace R3 := keep hb_ R3
         replace hH := hH.keep hb_
         replace hB := hB.keep hb_
         replace hPs := hPs.keep hb_
         replace hw := Below.after hw hb_
         clear hb_
         refine hK_ _ _ (RH) ?_
         simp only [Act.put, List.getElem_toArray, List.getElem_cons_succ, List.getElem_cons_zero, List.setIfInBounds_toArray, List.set_cons_succ, List.set_cons_zero]
         clear hK_
         generalize q19.alloc (.cells #[.int .i64 0, .int .i64 0, .int .i64 0] 35) = q32 at *
         generalize q19.heap.size = g33 at *
         refine wpAnyH_one (k := 2) (fuel := 6) (by kernel_rfl) rfl (by kernel_rfl) (fun K_ hK_ => ?_)
         have cH := (r_shapeE1 q32).mono (fun e w' h => (by obtain ⟨x, h1, ⟨q, h2, _, h3⟩, h4⟩ := h; exact ⟨_, h1, q, h2, h3, h4⟩ : ∃ v, e = .returned v ∧ ∃ q, v = .pointer (some ⟨q, 0, none⟩) ∧ Rdc w' q (esl 1) ∧ Below q32.heap.size q32 w'))
         refine wp_call_ex (R := fun v w' => ∃ q, v = .pointer (some ⟨q, 0, none⟩) ∧ Rdc w' q (esl 1) ∧ Below q32.heap.size q32 w') (by kernel_rfl) cH (fun v_ q34 hX_ => ?_)
         obtain ⟨q, rfl, hC, hb_⟩ := hX_
         replace RH := keep hb_ RH
         replace R3 := keep hb_ R3
         replace RF := keep hb_ RF
         replace hH := hH.keep hb_
         replace hB := hB.keep hb_
         replace hPs := hPs.keep hb_
         replace hw := Below.after hw hb_
         clear hb_ cH
         refine hK_ _ _ (RH) ?_
         simp only [Act.put, List.getElem_toArray, List.getElem_cons_succ, List.getElem_cons_zero, List.setIfInBounds_toArray, List.set_cons_succ, List.set_cons_zero]
         clear hK_
         refine wpAnyH_one (k := 18) (fuel := 5) (by kernel_rfl) rfl (by kernel_rfl) (fun K_ hK_ => ?_)
         have cE := r_EncodeF esl1_flat (by decide) none 0 (.slice (some ⟨gp, 0, none⟩) 4 4) (exs 1 (w.heap.size) ha 60 hc ba bn bc) [[], nonce, hd, bd] rfl (esl_chk 1 _ _ _ _ _ _ h80 hmo) q34 hC (exs_prt (by decide) (by decide) (by have := hB.bn; omega) hPs) (exs_bys (by decide) hn RH hH hB b1 b2)
         rw [exs_fdk] at cE
         have cE2 := cE.mono (fun e w' h => (by obtain ⟨u, e1, e2, e3⟩ := h; exact ⟨_, e1, u, rfl, e2, e3⟩ : ∃ v, e = .returned v ∧ ∃ u, v = .tuple #[u, .agg #[.int .i64 0, .int .i64 0, .int .i64 0]] ∧ Own w' q34.heap.size u (eout (efs 1 nonce hd bd)) ∧ Below q34.heap.size q34 w'))
         refine wp_call_ex (R := fun v w' => ∃ u, v = .tuple #[u, .agg #[.int .i64 0, .int .i64 0, .int .i64 0]] ∧ Own w' q34.heap.size u (eout (efs 1 nonce hd bd)) ∧ Below q34.heap.size q34 w') (by kernel_rfl) cE2 (fun v_ q35 hX_ => ?_)
         obtain ⟨u, rfl, hU, hb_⟩ := hX_
         have hU2 := own_down hU hw.size
         have hne3 : ∀ k, u.ownBlock = some k → k ≠ w.heap.size + 1 := fun k e => by have := own_low hU k e; have := lt_of_row R3; omega
         have hne : ∀ k, u.ownBlock = some k → k ≠ g33 := fun k e => by have := own_low hU k e; have := lt_of_row RF; omega
         clear cE cE2 hC hPs
         replace RH := keep hb_ RH
         replace R3 := keep hb_ R3
         replace RF := keep hb_ RF
         replace hw := Below.after hw hb_
         clear hb_ hU hH hB
         obtain ⟨L, hL⟩ : ∃ L, (eout (efs 1 nonce hd bd)) = L := ⟨_, rfl⟩
         rw [hL] at hU2
         replace hL := hide hL
         obtain ⟨ua, uc, rfl⟩ := slen_own hU2
         refine hK_ _ _ (RH) ?_
         simp only [Act.put, List.getElem_toArray, List.getElem_cons_succ, List.getElem_cons_zero, List.setIfInBounds_toArray, List.set_cons_succ, List.set_cons_zero]
         clear hK_
         refine wpAnyH_take (i := 19) (v := ?v147) rfl (by kernel_rfl) (by kernel_rfl) (by kernel_rfl) (fun _ _ _ h => h) (Or.inl ⟨by rfl, ?y147⟩) (RH) ?r147
         case y147 =>
           intro w_ hS_
           go_simp
           try with_reducible rfl
         simp only [Act.put, List.getElem_toArray, List.getElem_cons_succ, List.getElem_cons_zero, List.setIfInBounds_toArray, List.set_cons_succ, List.set_cons_zero]
         refine wpAnyH_take (i := 20) (v := ?v148) rfl (by kernel_rfl) (by kernel_rfl) (by kernel_rfl) (fun _ _ _ h => h) (Or.inl ⟨by rfl, ?y148⟩) (RH) ?r148
         case y148 =>
           intro w_ hS_
           go_simp
           try with_reducible rfl
         simp only [Act.put, List.getElem_toArray, List.getElem_cons_succ, List.getElem_cons_zero, List.setIfInBounds_toArray, List.set_cons_succ, List.set_cons_zero]
         refine wpAnyH_take (i := 21) (v := ?v149) rfl (by kernel_rfl) (by kernel_rfl) (by kernel_rfl) (fun _ _ _ h => h) (Or.inl ⟨by rfl, ?y149⟩) (RH) ?r149
         case y149 =>
           intro w_ hS_
           go_simp
           try with_reducible rfl
         simp only [Act.put, List.getElem_toArray, List.getElem_cons_succ, List.getElem_cons_zero, List.setIfInBounds_toArray, List.set_cons_succ, List.set_cons_zero]
         refine wpAnyH_take (i := 23) (v := ?v150) rfl (by kernel_rfl) (by kernel_rfl) (by kernel_rfl) (fun _ _ _ h => h) (Or.inl ⟨by rfl, ?y150⟩) (RH) ?r150
         case y150 =>
           intro w_ hS_
           go_simp
           try with_reducible rfl
         simp only [Act.put, List.getElem_toArray, List.getElem_cons_succ, List.getElem_cons_zero, List.setIfInBounds_toArray, List.set_cons_succ, List.set_cons_zero]
         refine wpAnyH_one (k := 24) (fuel := 0) (by kernel_rfl) rfl (by kernel_rfl) (fun K_ hK_ => ?_)
         refine wp_store_row 35 _ _ rfl (g33) #[.int .i64 0, .int .i64 0, .int .i64 0] rfl rfl 35 _ RF infoFt rfl hone ?_
         have l3_ := lt_of_row R3
         replace RH := (setRow_other q35 (g33) (w.heap.size) #[.int .i64 0, .int .i64 0, .int .i64 0] (by omega)).trans RH
         replace R3 := (setRow_other q35 (g33) (w.heap.size + 1) #[.int .i64 0, .int .i64 0, .int .i64 0] (by omega)).trans R3
         replace hU2 : Own (q35.setRow g33 #[.int .i64 0, .int .i64 0, .int .i64 0]) w.heap.size (.slice ua L.length uc) L := own_but hU2 fun q hq => setRow_other q35 (g33) q _ (by have := hne q hq; omega)
         replace hw := below_setRow hw (show w.heap.size ≤ g33 by omega) #[.int .i64 0, .int .i64 0, .int .i64 0]
         refine hK_ _ _ (RH) ?_
         simp only [Act.put, List.getElem_toArray, List.getElem_cons_succ, List.getElem_cons_zero]
         clear hK_
         generalize q35.setRow g33 #[.int .i64 0, .int .i64 0, .int .i64 0] = q36 at *
         refine wpAnyH_done (by kernel_rfl) ?_ _
         refine NoPanic.normal ?_
         have RX := hide (setRow_heap q36 (w.heap.size + 1) _ #[.int .i64 0, .int .i64 0, .int .i64 0] _ _ R3)
         have A1 : Hid (Own (q36.setRow (w.heap.size + 1) #[.int .i64 0, .int .i64 0, .int .i64 0]) w.heap.size (.slice ua L.length uc) L) := hide (own_but hU2 fun q hq => setRow_other q36 (w.heap.size + 1) q _ (by have := hne3 q hq; omega))
         have A2 := hide (below_setRow hw (show w.heap.size ≤ w.heap.size + 1 by omega) #[.int .i64 0, .int .i64 0, .int .i64 0])
         clear hU2 hw RH RF hne hne3
         go_wp2_with (first | (refine wpList_build_want rfl 35 _ rfl [] rfl #[.int .i64 0, .int .i64 0, .int .i64 0] builtZeR ?_) | (refine wpList_store_row rfl 35 _ _ rfl (w.heap.size + 1) #[.int .i64 0, .int .i64 0, .int .i64 0] rfl rfl 35 _ R3 infoFt rfl hone ?_) | fail)
         refine bodyPost_ret (results_slot_cell Tryz.results19 _ _ (w.heap.size + 1) _ _ _ _ rfl RX.out Tryz.underlying35 rfl infoFt) rfl ⟨⟨.slice ua L.length uc, ?_, ?_⟩, A2.out⟩
         · rw [hpk.out]; rfl
         · rw [hpk.out]
           show Own _ _ _ (eout (efs 1 nonce hd bd))
           rw [hL.out]
           exact A1.out
     · refine wp_world_op (.pointer (some ⟨w1.heap.size, 0, none⟩)) (w1.alloc (.cells #[.int .i64 0, .int .i64 0, .int .i64 0] 35)) (by kernel_rfl) ?_
       have hb_ : Below w1.heap.size w1 (w1.alloc (.cells #[.int .i64 0, .int .i64 0, .int .i64 0] 35)) := (Below.refl _ _).alloc (Nat.le_refl _) _
       have sz_g39 : w.heap.size ≤ w1.heap.size := hw.size
       have lt_RH_g39 := lt_of_row RH
       have lt_R3_g39 := lt_of_row R3
       have RF := hp1_0 w1 (.cells #[.int .i64 0, .int .i64 0, .int .i64 0] 35)
       replace RH := keep hb_ RH
       replace R3 := keep hb_ R3
       replace hH := hH.keep hb_
       replace hB := hB.keep hb_
       replace hw := Below.after hw hb_
       clear hb_
       refine hK_ _ _ (RH) ?_
       simp only [Act.put, List.getElem_toArray, List.getElem_cons_succ, List.getElem_cons_zero, List.setIfInBounds_toArray, List.set_cons_succ, List.set_cons_zero]
       clear hK_
       generalize w1.alloc (.cells #[.int .i64 0, .int .i64 0, .int .i64 0] 35) = q38 at *
       generalize w1.heap.size = g39 at *
       refine wpAnyH_two (j := 2) (k := 16) (fuel := 8) (by kernel_rfl) rfl rfl (by kernel_rfl) (by kernel_rfl) (fun K_ hK_ => ?_) (fun K_ hK_ => ?_)
       · have cH := (r_shapeE1 q38).mono (fun e w' h => (by obtain ⟨x, h1, ⟨q, h2, _, h3⟩, h4⟩ := h; exact ⟨_, h1, q, h2, h3, h4⟩ : ∃ v, e = .returned v ∧ ∃ q, v = .pointer (some ⟨q, 0, none⟩) ∧ Rdc w' q (esl 1) ∧ Below q38.heap.size q38 w'))
         refine wp_call_ex (R := fun v w' => ∃ q, v = .pointer (some ⟨q, 0, none⟩) ∧ Rdc w' q (esl 1) ∧ Below q38.heap.size q38 w') (by kernel_rfl) cH (fun v_ q40 hX_ => ?_)
         obtain ⟨q, rfl, hC, hb_⟩ := hX_
         replace RH := keep hb_ RH
         replace R3 := keep hb_ R3
         replace RF := keep hb_ RF
         replace hH := hH.keep hb_
         replace hB := hB.keep hb_
         replace hw := Below.after hw hb_
         clear hb_ cH
         refine hK_ _ _ (RH) ?_
         simp only [Act.put, List.getElem_toArray, List.getElem_cons_succ, List.getElem_cons_zero, List.setIfInBounds_toArray, List.set_cons_succ, List.set_cons_zero]
         clear hK_
         refine wpAnyH_one (k := 16) (fuel := 7) (by kernel_rfl) rfl (by kernel_rfl) (fun K_ hK_ => ?_)
         refine wp_val_op (.slice (some ⟨q40.heap.size, 0, none⟩) 4 4) (w' := q40.alloc (.cells #[.int .u64 1, .slice none 0 0, .slice none 0 0, .int .u64 0, .slice (some ⟨w.heap.size, 1, none⟩) 16 16, .slice none 0 0, .int .u64 0, .slice ha 60 hc, .slice none 0 0, .int .u64 0, .slice ba bn bc, .slice none 0 0] 76)) (by kernel_rfl) ?_
         have hPs : Bx (q40.alloc (.cells #[.int .u64 1, .slice none 0 0, .slice none 0 0, .int .u64 0, .slice (some ⟨w.heap.size, 1, none⟩) 16 16, .slice none 0 0, .int .u64 0, .slice ha 60 hc, .slice none 0 0, .int .u64 0, .slice ba bn bc, .slice none 0 0] 76)) q40.heap.size #[.int .u64 1, .slice none 0 0, .slice none 0 0, .int .u64 0, .slice (some ⟨w.heap.size, 1, none⟩) 16 16, .slice none 0 0, .int .u64 0, .slice ha 60 hc, .slice none 0 0, .int .u64 0, .slice ba bn bc, .slice none 0 0] := ⟨_, hp1_0 q40 _⟩
         have hb_ : Below q40.heap.size q40 (q40.alloc (.cells #[.int .u64 1, .slice none 0 0, .slice none 0 0, .int .u64 0, .slice (some ⟨w.heap.size, 1, none⟩) 16 16, .slice none 0 0, .int .u64 0, .slice ha 60 hc, .slice none 0 0, .int .u64 0, .slice ba bn bc, .slice none 0 0] 76)) := (Below.refl _ _).alloc (Nat.le_refl _) _
         replace RH := keep hb_ RH
         replace R3 := keep hb_ R3
         replace RF := keep hb_ RF
         replace hH := hH.keep hb_
         replace hB := hB.keep hb_
         replace hC := rdc_keepH hC hb_
         replace hw := Below.after hw hb_
         clear hb_
         refine hK_ _ _ (RH) ?_
         simp only [Act.put, List.getElem_toArray, List.getElem_cons_succ, List.getElem_cons_zero, List.setIfInBounds_toArray, List.set_cons_succ, List.set_cons_zero]
         clear hK_
         generalize q40.alloc (.cells #[.int .u64 1, .slice none 0 0, .slice none 0 0, .int .u64 0, .slice (some ⟨w.heap.size, 1, none⟩) 16 16, .slice none 0 0, .int .u64 0, .slice ha 60 hc, .slice none 0 0, .int .u64 0, .slice ba bn bc, .slice none 0 0] 76) = q41 at *
         generalize q40.heap.size = gp at *
         refine wpAnyH_take (i := 17) (v := .agg #[.int .u64 0, .slice none 0 0, .slice (some ⟨gp, 0, none⟩) 4 4]) rfl (by kernel_rfl) (by kernel_rfl) (by kernel_rfl) (fun _ _ _ h => h) (Or.inl ⟨by rfl, ?y151⟩) (RH) ?r151
         case y151 =>
           intro w_ hS_
           go_simp
           try with_reducible rfl
         simp only [Act.put, List.getElem_toArray, List.getElem_cons_succ, List.getElem_cons_zero, List.setIfInBounds_toArray, List.set_cons_succ, List.set_cons_zero]
         refine wpAnyH_one (k := 18) (fuel := 5) (by kernel_rfl) rfl (by kernel_rfl) (fun K_ hK_ => ?_)
         have cE := r_EncodeF esl1_flat (by decide) none 0 (.slice (some ⟨gp, 0, none⟩) 4 4) (exs 1 (w.heap.size) ha 60 hc ba bn bc) [[], nonce, hd, bd] rfl (esl_chk 1 _ _ _ _ _ _ h80 hmo) q41 hC (exs_prt (by decide) (by decide) (by have := hB.bn; omega) hPs) (exs_bys (by decide) hn RH hH hB b1 b2)
         rw [exs_fdk] at cE
         have cE2 := cE.mono (fun e w' h => (by obtain ⟨u, e1, e2, e3⟩ := h; exact ⟨_, e1, u, rfl, e2, e3⟩ : ∃ v, e = .returned v ∧ ∃ u, v = .tuple #[u, .agg #[.int .i64 0, .int .i64 0, .int .i64 0]] ∧ Own w' q41.heap.size u (eout (efs 1 nonce hd bd)) ∧ Below q41.heap.size q41 w'))
         refine wp_call_ex (R := fun v w' => ∃ u, v = .tuple #[u, .agg #[.int .i64 0, .int .i64 0, .int .i64 0]] ∧ Own w' q41.heap.size u (eout (efs 1 nonce hd bd)) ∧ Below q41.heap.size q41 w') (by kernel_rfl) cE2 (fun v_ q42 hX_ => ?_)
         obtain ⟨u, rfl, hU, hb_⟩ := hX_
         have hU2 := own_down hU hw.size
         have hne3 : ∀ k, u.ownBlock = some k → k ≠ w.heap.size + 1 := fun k e => by have := own_low hU k e; have := lt_of_row R3; omega
         have hne : ∀ k, u.ownBlock = some k → k ≠ g39 := fun k e => by have := own_low hU k e; have := lt_of_row RF; omega
         clear cE cE2 hC hPs
         replace RH := keep hb_ RH
         replace R3 := keep hb_ R3
         replace RF := keep hb_ RF
         replace hw := Below.after hw hb_
         clear hb_ hU hH hB
         obtain ⟨L, hL⟩ : ∃ L, (eout (efs 1 nonce hd bd)) = L := ⟨_, rfl⟩
         rw [hL] at hU2
         replace hL := hide hL
         obtain ⟨ua, uc, rfl⟩ := slen_own hU2
         refine hK_ _ _ (RH) ?_
         simp only [Act.put, List.getElem_toArray, List.getElem_cons_succ, List.getElem_cons_zero, List.setIfInBounds_toArray, List.set_cons_succ, List.set_cons_zero]
         clear hK_
         refine wpAnyH_take (i := 19) (v := ?v152) rfl (by kernel_rfl) (by kernel_rfl) (by kernel_rfl) (fun _ _ _ h => h) (Or.inl ⟨by rfl, ?y152⟩) (RH) ?r152
         case y152 =>
           intro w_ hS_
           go_simp
           try with_reducible rfl
         simp only [Act.put, List.getElem_toArray, List.getElem_cons_succ, List.getElem_cons_zero, List.setIfInBounds_toArray, List.set_cons_succ, List.set_cons_zero]
         refine wpAnyH_take (i := 20) (v := ?v153) rfl (by kernel_rfl) (by kernel_rfl) (by kernel_rfl) (fun _ _ _ h => h) (Or.inl ⟨by rfl, ?y153⟩) (RH) ?r153
         case y153 =>
           intro w_ hS_
           go_simp
           try with_reducible rfl
         simp only [Act.put, List.getElem_toArray, List.getElem_cons_succ, List.getElem_cons_zero, List.setIfInBounds_toArray, List.set_cons_succ, List.set_cons_zero]
         refine wpAnyH_take (i := 21) (v := ?v154) rfl (by kernel_rfl) (by kernel_rfl) (by kernel_rfl) (fun _ _ _ h => h) (Or.inl ⟨by rfl, ?y154⟩) (RH) ?r154
         case y154 =>
           intro w_ hS_
           go_simp
           try with_reducible rfl
         simp only [Act.put, List.getElem_toArray, List.getElem_cons_succ, List.getElem_cons_zero, List.setIfInBounds_toArray, List.set_cons_succ, List.set_cons_zero]
         refine wpAnyH_take (i := 23) (v := ?v155) rfl (by kernel_rfl) (by kernel_rfl) (by kernel_rfl) (fun _ _ _ h => h) (Or.inl ⟨by rfl, ?y155⟩) (RH) ?r155
         case y155 =>
           intro w_ hS_
           go_simp
           try with_reducible rfl
         simp only [Act.put, List.getElem_toArray, List.getElem_cons_succ, List.getElem_cons_zero, List.setIfInBounds_toArray, List.set_cons_succ, List.set_cons_zero]
         refine wpAnyH_one (k := 24) (fuel := 0) (by kernel_rfl) rfl (by kernel_rfl) (fun K_ hK_ => ?_)
         refine wp_store_row 35 _ _ rfl (g39) #[.int .i64 0, .int .i64 0, .int .i64 0] rfl rfl 35 _ RF infoFt rfl hone ?_
         have l3_ := lt_of_row R3
         replace RH := (setRow_other q42 (g39) (w.heap.size) #[.int .i64 0, .int .i64 0, .int .i64 0] (by omega)).trans RH
         replace R3 := (setRow_other q42 (g39) (w.heap.size + 1) #[.int .i64 0, .int .i64 0, .int .i64 0] (by omega)).trans R3
         replace hU2 : Own (q42.setRow g39 #[.int .i64 0, .int .i64 0, .int .i64 0]) w.heap.size (.slice ua L.length uc) L := own_but hU2 fun q hq => setRow_other q42 (g39) q _ (by have := hne q hq; omega)
         replace hw := below_setRow hw (show w.heap.size ≤ g39 by omega) #[.int .i64 0, .int .i64 0, .int .i64 0]
         refine hK_ _ _ (RH) ?_
         simp only [Act.put, List.getElem_toArray, List.getElem_cons_succ, List.getElem_cons_zero]
         clear hK_
         generalize q42.setRow g39 #[.int .i64 0, .int .i64 0, .int .i64 0] = q43 at *
         refine wpAnyH_done (by kernel_rfl) ?_ _
         refine NoPanic.normal ?_
         have RX := hide (setRow_heap q43 (w.heap.size + 1) _ #[.int .i64 0, .int .i64 0, .int .i64 0] _ _ R3)
         have A1 : Hid (Own (q43.setRow (w.heap.size + 1) #[.int .i64 0, .int .i64 0, .int .i64 0]) w.heap.size (.slice ua L.length uc) L) := hide (own_but hU2 fun q hq => setRow_other q43 (w.heap.size + 1) q _ (by have := hne3 q hq; omega))
         have A2 := hide (below_setRow hw (show w.heap.size ≤ w.heap.size + 1 by omega) #[.int .i64 0, .int .i64 0, .int .i64 0])
         clear hU2 hw RH RF hne hne3
         go_wp2_with (first | (refine wpList_build_want rfl 35 _ rfl [] rfl #[.int .i64 0, .int .i64 0, .int .i64 0] builtZeR ?_) | (refine wpList_store_row rfl 35 _ _ rfl (w.heap.size + 1) #[.int .i64 0, .int .i64 0, .int .i64 0] rfl rfl 35 _ R3 infoFt rfl hone ?_) | fail)
         refine bodyPost_ret (results_slot_cell Tryz.results19 _ _ (w.heap.size + 1) _ _ _ _ rfl RX.out Tryz.underlying35 rfl infoFt) rfl ⟨⟨.slice ua L.length uc, ?_, ?_⟩, A2.out⟩
         · rw [hpk.out]; rfl
         · rw [hpk.out]
           show Own _ _ _ (eout (efs 1 nonce hd bd))
           rw [hL.out]
           exact A1.out
       · refine wp_val_op (.slice (some ⟨q38.heap.size, 0, none⟩) 4 4) (w' := q38.alloc (.cells #[.int .u64 1, .slice none 0 0, .slice none 0 0, .int .u64 0, .slice (some ⟨w.heap.size, 1, none⟩) 16 16, .slice none 0 0, .int .u64 0, .slice ha 60 hc, .slice none 0 0, .int .u64 0, .slice ba bn bc, .slice none 0 0] 76)) (by kernel_rfl) ?_
         have hPs : Bx (q38.alloc (.cells #[.int .u64 1, .slice none 0 0, .slice none 0 0, .int .u64 0, .slice (some ⟨w.heap.size, 1, none⟩) 16 16, .slice none 0 0, .int .u64 0, .slice ha 60 hc, .slice none 0 0, .int .u64 0, .slice ba bn bc, .slice none 0 0] 76)) q38.heap.size #[.int .u64 1, .slice none 0 0, .slice none 0 0, .int .u64 0, .slice (some ⟨w.heap.size, 1, none⟩) 16 16, .slice none 0 0, .int .u64 0, .slice ha 60 hc, .slice none 0 0, .int .u64 0, .slice ba bn bc, .slice none 0 0] := ⟨_, hp1_0 q38 _⟩
         have hb_ : Below q38.heap.size q38 (q38.alloc (.cells #[.int .u64 1, .slice none 0 0, .slice none 0 0, .int .u64 0, .slice (some ⟨w.heap.size, 1, none⟩) 16 16, .slice none 0 0, .int .u64 0, .slice ha 60 hc, .slice none 0 0, .int .u64 0, .slice ba bn bc, .slice none 0 0] 76)) := (Below.refl _ _).alloc (Nat.le_refl _) _
         replace RH := keep hb_ RH
         replace R3 := keep hb_ R3
         replace RF := keep hb_ RF
         replace hH := hH.keep hb_
         replace hB := hB.keep hb_
         replace hw := Below.after hw hb_
         clear hb_
         refine hK_ _ _ (RH) ?_
         simp only [Act.put, List.getElem_toArray, List.getElem_cons_succ, List.getElem_cons_zero, List.setIfInBounds_toArray, List.set_cons_succ, List.set_cons_zero]
         clear hK_
         generalize q38.alloc (.cells #[.int .u64 1, .slice none 0 0, .slice none 0 0, .int .u64 0, .slice (some ⟨w.heap.size, 1, none⟩) 16 16, .slice none 0 0, .int .u64 0, .slice ha 60 hc, .slice none 0 0, .int .u64 0, .slice ba bn bc, .slice none 0 0] 76) = q44 at *
         generalize q38.heap.size = gp at *
         refine wpAnyH_take (i := 17) (v := .agg #[.int .u64 0, .slice none 0 0, .slice (some ⟨gp, 0, none⟩) 4 4]) rfl (by kernel_rfl) (by kernel_rfl) (by kernel_rfl) (fun _ _ _ h => h) (Or.inl ⟨by rfl, ?y156⟩) (RH) ?r156
         case y156 =>
           intro w_ hS_
           go_simp
           try with_reducible rfl
         simp only [Act.put, List.getElem_toArray, List.getElem_cons_succ, List.getElem_cons_zero, List.setIfInBounds_toArray, List.set_cons_succ, List.set_cons_zero]
         refine wpAnyH_one (k := 2) (fuel := 6) (by kernel_rfl) rfl (by kernel_rfl) (fun K_ hK_ => ?_)
         have cH := (r_shapeE1 q44).mono (fun e w' h => (by obtain ⟨x, h1, ⟨q, h2, _, h3⟩, h4⟩ := h; exact ⟨_, h1, q, h2, h3, h4⟩ : ∃ v, e = .returned v ∧ ∃ q, v = .pointer (some ⟨q, 0, none⟩) ∧ Rdc w' q (esl 1) ∧ Below q44.heap.size q44 w'))
         refine wp_call_ex (R := fun v w' => ∃ q, v = .pointer (some ⟨q, 0, none⟩) ∧ Rdc w' q (esl 1) ∧ Below q44.heap.size q44 w') (by kernel_rfl) cH (fun v_ q45 hX_ => ?_)
         obtain ⟨q, rfl, hC, hb_⟩ := hX_
         replace RH := keep hb_ RH
         replace R3 := keep hb_ R3
         replace RF := keep hb_ RF
         replace hH := hH.keep hb_
         replace hB := hB.keep hb_
         replace hPs := hPs.keep hb_
         replace hw := Below.after hw hb_
         clear hb_ cH
         refine hK_ _ _ (RH) ?_
         simp only [Act.put, List.getElem_toArray, List.getElem_cons_succ, List.getElem_cons_zero, List.setIfInBounds_toArray, List.set_cons_succ, List.set_cons_zero]
         clear hK_
         refine wpAnyH_one (k := 18) (fuel := 5) (by kernel_rfl) rfl (by kernel_rfl) (fun K_ hK_ => ?_)
         have cE := r_EncodeF esl1_flat (by decide) none 0 (.slice (some ⟨gp, 0, none⟩) 4 4) (exs 1 (w.heap.size) ha 60 hc ba bn bc) [[], nonce, hd, bd] rfl (esl_chk 1 _ _ _ _ _ _ h80 hmo) q45 hC (exs_prt (by decide) (by decide) (by have := hB.bn; omega) hPs) (exs_bys (by decide) hn RH hH hB b1 b2)
         rw [exs_fdk] at cE
         have cE2 := cE.mono (fun e w' h => (by obtain ⟨u, e1, e2, e3⟩ := h; exact ⟨_, e1, u, rfl, e2, e3⟩ : ∃ v, e = .returned v ∧ ∃ u, v = .tuple #[u, .agg #[.int .i64 0, .int .i64 0, .int .i64 0]] ∧ Own w' q45.heap.size u (eout (efs 1 nonce hd bd)) ∧ Below q45.heap.size q45 w'))
         refine wp_call_ex (R := fun v w' => ∃ u, v = .tuple #[u, .agg #[.int .i64 0, .int .i64 0, .int .i64 0]] ∧ Own w' q45.heap.size u (eout (efs 1 nonce hd bd)) ∧ Below q45.heap.size q45 w') (by kernel_rfl) cE2 (fun v_ q46 hX_ => ?_)
         obtain ⟨u, rfl, hU, hb_⟩ := hX_
         have hU2 := own_down hU hw.size
         have hne3 : ∀ k, u.ownBlock = some k → k ≠ w.heap.size + 1 := fun k e => by have := own_low hU k e; have := lt_of_row R3; omega
         have hne : ∀ k, u.ownBlock = some k → k ≠ g39 := fun k e => by have := own_low hU k e; have := lt_of_row RF; omega
         clear cE cE2 hC hPs
         replace RH := keep hb_ RH
         replace R3 := keep hb_ R3
         replace RF := keep hb_ RF
         replace hw := Below.after hw hb_
         clear hb_ hU hH hB
         obtain ⟨L, hL⟩ : ∃ L, (eout (efs 1 nonce hd bd)) = L := ⟨_, rfl⟩
         rw [hL] at hU2
         replace hL := hide hL
         obtain ⟨ua, uc, rfl⟩ := slen_own hU2
         refine hK_ _ _ (RH) ?_
         simp only [Act.put, List.getElem_toArray, List.getElem_cons_succ, List.getElem_cons_zero, List.setIfInBounds_toArray, List.set_cons_succ, List.set_cons_zero]
         clear hK_
         refine wpAnyH_take (i := 19) (v := ?v157) rfl (by kernel_rfl) (by kernel_rfl) (by kernel_rfl) (fun _ _ _ h => h) (Or.inl ⟨by rfl, ?y157⟩) (RH) ?r157
         case y157 =>
           intro w_ hS_
           go_simp
           try with_reducible rfl
         simp only [Act.put, List.getElem_toArray, List.getElem_cons_succ, List.getElem_cons_zero, List.setIfInBounds_toArray, List.set_cons_succ, List.set_cons_zero]
         refine wpAnyH_take (i := 20) (v := ?v158) rfl (by kernel_rfl) (by kernel_rfl) (by kernel_rfl) (fun _ _ _ h => h) (Or.inl ⟨by rfl, ?y158⟩) (RH) ?r158
         case y158 =>
           intro w_ hS_
           go_simp
           try with_reducible rfl
         simp only [Act.put, List.getElem_toArray, List.getElem_cons_succ, List.getElem_cons_zero, List.setIfInBounds_toArray, List.set_cons_succ, List.set_cons_zero]
         refine wpAnyH_take (i := 21) (v := ?v159) rfl (by kernel_rfl) (by kernel_rfl) (by kernel_rfl) (fun _ _ _ h => h) (Or.inl ⟨by rfl, ?y159⟩) (RH) ?r159
         case y159 =>
           intro w_ hS_
           go_simp
           try with_reducible rfl
         simp only [Act.put, List.getElem_toArray, List.getElem_cons_succ, List.getElem_cons_zero, List.setIfInBounds_toArray, List.set_cons_succ, List.set_cons_zero]
         refine wpAnyH_take (i := 23) (v := ?v160) rfl (by kernel_rfl) (by kernel_rfl) (by kernel_rfl) (fun _ _ _ h => h) (Or.inl ⟨by rfl, ?y160⟩) (RH) ?r160
         case y160 =>
           intro w_ hS_
           go_simp
           try with_reducible rfl
         simp only [Act.put, List.getElem_toArray, List.getElem_cons_succ, List.getElem_cons_zero, List.setIfInBounds_toArray, List.set_cons_succ, List.set_cons_zero]
         refine wpAnyH_one (k := 24) (fuel := 0) (by kernel_rfl) rfl (by kernel_rfl) (fun K_ hK_ => ?_)
         refine wp_store_row 35 _ _ rfl (g39) #[.int .i64 0, .int .i64 0, .int .i64 0] rfl rfl 35 _ RF infoFt rfl hone ?_
         have l3_ := lt_of_row R3
         replace RH := (setRow_other q46 (g39) (w.heap.size) #[.int .i64 0, .int .i64 0, .int .i64 0] (by omega)).trans RH
         replace R3 := (setRow_other q46 (g39) (w.heap.size + 1) #[.int .i64 0, .int .i64 0, .int .i64 0] (by omega)).trans R3
         replace hU2 : Own (q46.setRow g39 #[.int .i64 0, .int .i64 0, .int .i64 0]) w.heap.size (.slice ua L.length uc) L := own_but hU2 fun q hq => setRow_other q46 (g39) q _ (by have := hne q hq; omega)
         replace hw := below_setRow hw (show w.heap.size ≤ g39 by omega) #[.int .i64 0, .int .i64 0, .int .i64 0]
         refine hK_ _ _ (RH) ?_
         simp only [Act.put, List.getElem_toArray, List.getElem_cons_succ, List.getElem_cons_zero]
         clear hK_
         generalize q46.setRow g39 #[.int .i64 0, .int .i64 0, .int .i64 0] = q47 at *
         refine wpAnyH_done (by kernel_rfl) ?_ _
         refine NoPanic.normal ?_
         have RX := hide (setRow_heap q47 (w.heap.size + 1) _ #[.int .i64 0, .int .i64 0, .int .i64 0] _ _ R3)
         have A1 : Hid (Own (q47.setRow (w.heap.size + 1) #[.int .i64 0, .int .i64 0, .int .i64 0]) w.heap.size (.slice ua L.length uc) L) := hide (own_but hU2 fun q hq => setRow_other q47 (w.heap.size + 1) q _ (by have := hne3 q hq; omega))
         have A2 := hide (below_setRow hw (show w.heap.size ≤ w.heap.size + 1 by omega) #[.int .i64 0, .int .i64 0, .int .i64 0])
         clear hU2 hw RH RF hne hne3
         go_wp2_with (first | (refine wpList_build_want rfl 35 _ rfl [] rfl #[.int .i64 0, .int .i64 0, .int .i64 0] builtZeR ?_) | (refine wpList_store_row rfl 35 _ _ rfl (w.heap.size + 1) #[.int .i64 0, .int .i64 0, .int .i64 0] rfl rfl 35 _ R3 infoFt rfl hone ?_) | fail)
         refine bodyPost_ret (results_slot_cell Tryz.results19 _ _ (w.heap.size + 1) _ _ _ _ rfl RX.out Tryz.underlying35 rfl infoFt) rfl ⟨⟨.slice ua L.length uc, ?_, ?_⟩, A2.out⟩
         · rw [hpk.out]; rfl
         · rw [hpk.out]
           show Own _ _ _ (eout (efs 1 nonce hd bd))
           rw [hL.out]
           exact A1.out
   · rw [decide_eq_false h2] at cH
     have hpk : Hid (pk10 1 60 bn = some ⟨1, 4, 102⟩) := hide (by
       unfold pk10
       rw [if_neg (by simp)]
       split
       · rfl
       · rw [if_neg (fun h => h2 ⟨by omega, by omega, h⟩)])
     replace cH := hide cH
     clear h2
     go_wp2_with (fail)
     refine (cH.out w0).mono ?_
     rintro e_ x0 ⟨rfl, hb_⟩
     replace R3 := keep hb_ R3
     replace hw := Below.after hw hb_
     clear hb_ cH c0 c17 c18
     have oneX : (#[Value.int .i64 1, .int .i64 4, .int .i64 102] : Array Value).all (·.oneCell') = true := by simp [Value.oneCell']
     have RX := hide (setRow_heap x0 (w.heap.size + 1) _ #[.int .i64 1, .int .i64 4, .int .i64 102] _ _ R3)
     have A2 := hide (below_setRow hw (show w.heap.size ≤ w.heap.size + 1 by omega) #[.int .i64 1, .int .i64 4, .int .i64 102])
     clear hw hH hB
     go_wp2_with (first | (refine wpList_store_row rfl 35 _ _ rfl (w.heap.size + 1) #[.int .i64 1, .int .i64 4, .int .i64 102] rfl rfl 35 _ R3 infoFt rfl oneX ?_) | fail)
     refine bodyPost_ret (results_slot_cell Tryz.results19 _ _ (w.heap.size + 1) _ _ _ _ rfl RX.out Tryz.underlying35 rfl infoFtR) rfl ⟨⟨.slice none 0 0, ?_, ?_⟩, A2.out⟩
     · rw [hpk.out]; rfl
     · rw [hpk.out]
       exact own_none10 _ _
 · have hpk : Hid (pk10 1 hl bn = some ⟨1, 3, 102⟩) := hide (by unfold pk10; rw [if_pos h1])
   have hq : ((hl : Int) != 60) = true := by
     have : (hl : Int) ≠ 60 := by omega
     simpa using this
   clear h1
   have oneX : (#[Value.int .i64 1, .int .i64 3, .int .i64 102] : Array Value).all (·.oneCell') = true := by simp [Value.oneCell']
   have RX := hide (setRow_heap w0 (w.heap.size + 1) _ #[.int .i64 1, .int .i64 3, .int .i64 102] _ _ R3)
   have A2 := hide (below_setRow hw (show w.heap.size ≤ w.heap.size + 1 by omega) #[.int .i64 1, .int .i64 3, .int .i64 102])
   clear hw hH hB
   go_wp2_with (first | (refine wpList_store_row rfl 35 _ _ rfl (w.heap.size + 1) #[.int .i64 1, .int .i64 3, .int .i64 102] rfl rfl 35 _ R3 infoFt rfl oneX ?_) | fail)
   refine bodyPost_ret (results_slot_cell Tryz.results19 _ _ (w.heap.size + 1) _ _ _ _ rfl RX.out Tryz.underlying35 rfl infoFtR) rfl ⟨⟨.slice none 0 0, ?_, ?_⟩, A2.out⟩
   · rw [hpk.out]; rfl
   · rw [hpk.out]
     exact own_none10 _ _
set_option maxRecDepth 100000 in
set_option maxHeartbeats 16000000 in
theorem r_PackE2 (nonce : List B) (hn : nonce.length = 16) (ha : Option Addr) (hl hc : Nat) (ba : Option Addr) (bn bc : Nat) (hd bd : List B) (w : World) (hH : BysB w (.slice ha hl hc) hd) (hB : BysB w (.slice ba bn bc) bd) (b1 : hd.length ≤ 140737488351232) (b2 : bd.length ≤ 140737488351232) : Calls Tryz.prog 19 #[.agg (evl 2 nonce (.slice ha hl hc) (.slice ba bn bc))] w fun e w' => (∃ u, e = .returned (.tuple #[u, .agg (fPk (pk10 2 hl bn))]) ∧ Own w' w.heap.size u (oPk (pk10 2 hl bn) (eout (efs 2 nonce hd bd)))) ∧ Below w.heap.size w w' := by
 have RH := hp2_0 w (.cells (evl 2 nonce (.slice ha hl hc) (.slice ba bn bc)) 51) (.cells #[.int .i64 0, .int .i64 0, .int .i64 0] 35)
 have R3 := hp2_1 w (.cells (evl 2 nonce (.slice ha hl hc) (.slice ba bn bc)) 51) (.cells #[.int .i64 0, .int .i64 0, .int .i64 0] 35)
 have hw : Below w.heap.size w ((w.alloc (.cells (evl 2 nonce (.slice ha hl hc) (.slice ba bn bc)) 51)).alloc (.cells #[.int .i64 0, .int .i64 0, .int .i64 0] 35)) := ((Below.refl _ _).alloc (Nat.le_refl _) _).alloc (by simp) _
 have hone : (#[Value.int .i64 0, .int .i64 0, .int .i64 0] : Array Value).all (·.oneCell') = true := by simp [Value.oneCell']
 replace hH := hH.keep hw
 replace hB := hB.keep hw
 have cK := r_known10 2
 rw [show ((2 : Int) == 1 || (2 : Int) == 2) = true from rfl] at cK
 replace cK := hide cK
 go_enter Tryz.func19, Tryz.ntmps19
 go_upto_region 1 with (first | (refine wpList_box rfl 51 _ rfl _ rfl (bEv _) ?_) | fail)
 try simp only [size_alloc1, Act.put, List.setIfInBounds_toArray, List.set_cons_succ, List.set_cons_zero]
 generalize (w.alloc (.cells (evl 2 nonce (.slice ha hl hc) (.slice ba bn bc)) 51)).alloc (.cells #[.int .i64 0, .int .i64 0, .int .i64 0] 35) = w00 at *
 have c0 : w00.cell? ⟨w.heap.size, 0, none⟩ = some (.int .i64 2) := by rw [cell_of_row _ _ _ _ _ _ RH]; exact evl_0 _ _ _ _
 go_wp2_with (fail)
 refine (cK.out w00).mono ?_
 rintro e_ w0 ⟨rfl, hb_⟩
 have l3 := lt_of_row R3
 replace RH := keep hb_ RH
 replace R3 := keep hb_ R3
 replace hH := hH.keep hb_
 replace hB := hB.keep hb_
 replace hw := Below.after hw hb_
 clear hb_ cK c0
 have c0 : w0.cell? ⟨w.heap.size, 0, none⟩ = some (.int .i64 2) := by rw [cell_of_row _ _ _ _ _ _ RH]; exact evl_0 _ _ _ _
 have c17 : w0.cell? ⟨w.heap.size, 17, none⟩ = some (.slice ha hl hc) := by rw [cell_of_row _ _ _ _ _ _ RH]; exact evl_h _ _ hn _ _
 have c18 : w0.cell? ⟨w.heap.size, 18, none⟩ = some (.slice ba bn bc) := by rw [cell_of_row _ _ _ _ _ _ RH]; exact evl_b _ _ hn _ _
 by_cases h1 : hl = 60
 · subst h1
   have cH := r_holds2 bn (by have := hB.bn; omega)
   by_cases h2 : 80 ≤ bn ∧ bn ≤ mo 2 ∧ bkd (dg 2) (bn - 16) = bn - 16
   · rw [decide_eq_true h2] at cH
     have hpk : Hid (pk10 2 60 bn = none) := hide (pk_of rfl h2.1 h2.2.1 h2.2.2)
     obtain ⟨h80, hmo, _⟩ := h2
     replace cH := hide cH
     go_wp2_with (fail)
     refine (cH.out w0).mono ?_
     rintro e_ x0 ⟨rfl, hb_⟩
     have l30 := lt_of_row R3
     replace RH := keep hb_ RH
     replace R3 := keep hb_ R3
     replace hH := hH.keep hb_
     replace hB := hB.keep hb_
     replace hw := Below.after hw hb_
     clear hb_ cH c0 c17 c18
     have skN := slice_n16 w.heap.size 1
     go_upto_region 7 with (fail)
     have hbd : Below x0.heap.size x0 x0.drew := below_drN (Below.refl _ _) 1
     replace RH := keep hbd RH
     replace R3 := keep hbd R3
     replace hH := hH.keep hbd
     replace hB := hB.keep hbd
     replace hw := Below.after hw hbd
     clear hbd
     refine wp_region_noPanic ?_
     refine wp_region_held (S := fun W : World => W.heap[w.heap.size]? = some (.cells (evl 2 nonce (.slice ha 60 hc) (.slice ba bn bc)) 51 (0, 0))) (by kernel_rfl) ?_
     change wpAnyH _ _ _ _ _ _ _ _ (World.drew _)
     generalize x0.drew = w1 at *
     refine wpAnyH_take (i := 0) (v := ?v161) rfl (by kernel_rfl) (by kernel_rfl) (by kernel_rfl) (fun _ _ _ h => h) (Or.inl ⟨by rfl, ?y161⟩) (RH) ?r161
     case y161 =>
       intro w_ hS_
       go_simp
       try with_reducible rfl
     simp only [Act.put, List.getElem_toArray, List.getElem_cons_zero, List.setIfInBounds_toArray, List.set_cons_succ, List.set_cons_zero]
     refine wpAnyH_take (i := 1) (v := .int .i64 2) rfl (by kernel_rfl) (by kernel_rfl) (by kernel_rfl) (fun _ _ _ h => h) (Or.inl ⟨by rfl, ?y162⟩) (RH) ?r162
     case y162 =>
       intro w_ hS_
       have c_ : w_.cell? ⟨w.heap.size, 0, none⟩ = some (.int .i64 2) := by rw [cell_of_row _ _ _ _ _ _ hS_]; exact evl_0 _ _ _ _
       go_simp
       try with_reducible rfl
     simp only [Act.put, List.getElem_toArray, List.getElem_cons_succ, List.getElem_cons_zero, List.setIfInBounds_toArray, List.set_cons_succ, List.set_cons_zero]
     refine wpAnyH_take (i := 3) (v := ?v163) rfl (by kernel_rfl) (by kernel_rfl) (by kernel_rfl) (fun _ _ _ h => h) (Or.inl ⟨by rfl, ?y163⟩) (RH) ?r163
     case y163 =>
       intro w_ hS_
       go_simp
       try with_reducible rfl
     simp only [Act.put, List.getElem_toArray, List.getElem_cons_succ, List.getElem_cons_zero, List.setIfInBounds_toArray, List.set_cons_succ, List.set_cons_zero]
     refine wpAnyH_take (i := 4) (v := .int .i64 2) rfl (by kernel_rfl) (by kernel_rfl) (by kernel_rfl) (fun _ _ _ h => h) (Or.inl ⟨by rfl, ?y164⟩) (RH) ?r164
     case y164 =>
       intro w_ hS_
       have c_ : w_.cell? ⟨w.heap.size, 0, none⟩ = some (.int .i64 2) := by rw [cell_of_row _ _ _ _ _ _ hS_]; exact evl_0 _ _ _ _
       go_simp
       try with_reducible rfl
     simp only [Act.put, List.getElem_toArray, List.getElem_cons_succ, List.getElem_cons_zero, List.setIfInBounds_toArray, List.set_cons_succ, List.set_cons_zero]
     refine wpAnyH_take (i := 5) (v := .int .u64 2) rfl (by kernel_rfl) (by kernel_rfl) (by kernel_rfl) (fun _ _ _ h => h) (Or.inl ⟨by rfl, ?y165⟩) (RH) ?r165
     case y165 =>
       intro w_ hS_
       go_simp
       rfl
     simp only [Act.put, List.getElem_toArray, List.getElem_cons_succ, List.getElem_cons_zero, List.setIfInBounds_toArray, List.set_cons_succ, List.set_cons_zero]
     refine wpAnyH_take (i := 6) (v := .agg #[.int .u64 2, .slice none 0 0, .slice none 0 0]) rfl (by kernel_rfl) (by kernel_rfl) (by kernel_rfl) (fun _ _ _ h => h) (Or.inl ⟨by rfl, ?y166⟩) (RH) ?r166
     case y166 =>
       intro w_ hS_
       go_simp
       try with_reducible rfl
     simp only [Act.put, List.getElem_toArray, List.getElem_cons_succ, List.getElem_cons_zero, List.setIfInBounds_toArray, List.set_cons_succ, List.set_cons_zero]
     refine wpAnyH_take (i := 7) (v := ?v167) rfl (by kernel_rfl) (by kernel_rfl) (by kernel_rfl) (fun _ _ _ h => h) (Or.inl ⟨by rfl, ?y167⟩) (RH) ?r167
     case y167 =>
       intro w_ hS_
       go_simp
       try with_reducible rfl
     simp only [Act.put, List.getElem_toArray, List.getElem_cons_succ, List.getElem_cons_zero, List.setIfInBounds_toArray, List.set_cons_succ, List.set_cons_zero]
     refine wpAnyH_take (i := 8) (v := .slice (some ⟨w.heap.size, 1, none⟩) 16 16) rfl (by kernel_rfl) (by kernel_rfl) (by kernel_rfl) (fun _ _ _ h => h) (Or.inl ⟨by rfl, ?y168⟩) (RH) ?r168
     case y168 =>
       intro w_ hS_
       go_simp
       try with_reducible rfl
     simp only [Act.put, List.getElem_toArray, List.getElem_cons_succ, List.getElem_cons_zero, List.setIfInBounds_toArray, List.set_cons_succ, List.set_cons_zero]
     refine wpAnyH_take (i := 9) (v := .agg #[.int .u64 0, .slice (some ⟨w.heap.size, 1, none⟩) 16 16, .slice none 0 0]) rfl (by kernel_rfl) (by kernel_rfl) (by kernel_rfl) (fun _ _ _ h => h) (Or.inl ⟨by rfl, ?y169⟩) (RH) ?r169
     case y169 =>
       intro w_ hS_
       go_simp
       try with_reducible rfl
     simp only [Act.put, List.getElem_toArray, List.getElem_cons_succ, List.getElem_cons_zero, List.setIfInBounds_toArray, List.set_cons_succ, List.set_cons_zero]
     refine wpAnyH_take (i := 10) (v := ?v170) rfl (by kernel_rfl) (by kernel_rfl) (by kernel_rfl) (fun _ _ _ h => h) (Or.inl ⟨by rfl, ?y170⟩) (RH) ?r170
     case y170 =>
       intro w_ hS_
       go_simp
       try with_reducible rfl
     simp only [Act.put, List.getElem_toArray, List.getElem_cons_succ, List.getElem_cons_zero, List.setIfInBounds_toArray, List.set_cons_succ, List.set_cons_zero]
     refine wpAnyH_take (i := 11) (v := .slice ha 60 hc) rfl (by kernel_rfl) (by kernel_rfl) (by kernel_rfl) (fun _ _ _ h => h) (Or.inl ⟨by rfl, ?y171⟩) (RH) ?r171
     case y171 =>
       intro w_ hS_
       have c_ : w_.cell? ⟨w.heap.size, 17, none⟩ = some (.slice ha 60 hc) := by rw [cell_of_row _ _ _ _ _ _ hS_]; exact evl_h _ _ hn _ _
       go_simp
       try with_reducible rfl
     simp only [Act.put, List.getElem_toArray, List.getElem_cons_succ, List.getElem_cons_zero, List.setIfInBounds_toArray, List.set_cons_succ, List.set_cons_zero]
     refine wpAnyH_take (i := 12) (v := .agg #[.int .u64 0, .slice ha 60 hc, .slice none 0 0]) rfl (by kernel_rfl) (by kernel_rfl) (by kernel_rfl) (fun _ _ _ h => h) (Or.inl ⟨by rfl, ?y172⟩) (RH) ?r172
     case y172 =>
       intro w_ hS_
       go_simp
       try with_reducible rfl
     simp only [Act.put, List.getElem_toArray, List.getElem_cons_succ, List.getElem_cons_zero, List.setIfInBounds_toArray, List.set_cons_succ, List.set_cons_zero]
     refine wpAnyH_take (i := 13) (v := ?v173) rfl (by kernel_rfl) (by kernel_rfl) (by kernel_rfl) (fun _ _ _ h => h) (Or.inl ⟨by rfl, ?y173⟩) (RH) ?r173
     case y173 =>
       intro w_ hS_
       go_simp
       try with_reducible rfl
     simp only [Act.put, List.getElem_toArray, List.getElem_cons_succ, List.getElem_cons_zero, List.setIfInBounds_toArray, List.set_cons_succ, List.set_cons_zero]
     refine wpAnyH_take (i := 14) (v := .slice ba bn bc) rfl (by kernel_rfl) (by kernel_rfl) (by kernel_rfl) (fun _ _ _ h => h) (Or.inl ⟨by rfl, ?y174⟩) (RH) ?r174
     case y174 =>
       intro w_ hS_
       have c_ : w_.cell? ⟨w.heap.size, 18, none⟩ = some (.slice ba bn bc) := by rw [cell_of_row _ _ _ _ _ _ hS_]; exact evl_b _ _ hn _ _
       go_simp
       try with_reducible rfl
     simp only [Act.put, List.getElem_toArray, List.getElem_cons_succ, List.getElem_cons_zero, List.setIfInBounds_toArray, List.set_cons_succ, List.set_cons_zero]
     refine wpAnyH_take (i := 15) (v := .agg #[.int .u64 0, .slice ba bn bc, .slice none 0 0]) rfl (by kernel_rfl) (by kernel_rfl) (by kernel_rfl) (fun _ _ _ h => h) (Or.inl ⟨by rfl, ?y175⟩) (RH) ?r175
     case y175 =>
       intro w_ hS_
       go_simp
       try with_reducible rfl
     simp only [Act.put, List.getElem_toArray, List.getElem_cons_succ, List.getElem_cons_zero, List.setIfInBounds_toArray, List.set_cons_succ, List.set_cons_zero]
     refine wpAnyH_three (j := 2) (k := 16) (l := 22) (fuel := 9) (by kernel_rfl) rfl rfl rfl (by kernel_rfl) (by kernel_rfl) (by kernel_rfl) (fun K_ hK_ => ?_) (fun K_ hK_ => ?_) (fun K_ hK_ => ?_)
     · have cH := (r_shapeE2 w1).mono (fun e w' h => (by obtain ⟨x, h1, ⟨q, h2, _, h3⟩, h4⟩ := h; exact ⟨_, h1, q, h2, h3, h4⟩ : ∃ v, e = .returned v ∧ ∃ q, v = .pointer (some ⟨q, 0, none⟩) ∧ Rdc w' q (esl 2) ∧ Below w1.heap.size w1 w'))
       refine wp_call_ex (R := fun v w' => ∃ q, v = .pointer (some ⟨q, 0, none⟩) ∧ Rdc w' q (esl 2) ∧ Below w1.heap.size w1 w') (by kernel_rfl) cH (fun v_ q48 hX_ => ?_)
       obtain ⟨q, rfl, hC, hb_⟩ := hX_
       replace RH := keep hb_ RH
       replace R3 := keep hb_ R3
       replace hH := hH.keep hb_
       replace hB := hB.keep hb_
       replace hw := Below.after hw hb_
       clear hb_ cH
       refine hK_ _ _ (RH) ?_
       simp only [Act.put, List.getElem_toArray, List.getElem_cons_succ, List.getElem_cons_zero, List.setIfInBounds_toArray, List.set_cons_succ, List.set_cons_zero]
       clear hK_
       refine wpAnyH_two (j := 16) (k := 22) (fuel := 8) (by kernel_rfl) rfl rfl (by kernel_rfl) (by kernel_rfl) (fun K_ hK_ => ?_) (fun K_ hK_ => ?_)
       · refine wp_val_op (.slice (some ⟨q48.heap.size, 0, none⟩) 4 4) (w' := q48.alloc (.cells #[.int .u64 2, .slice none 0 0, .slice none 0 0, .int .u64 0, .slice (some ⟨w.heap.size, 1, none⟩) 16 16, .slice none 0 0, .int .u64 0, .slice ha 60 hc, .slice none 0 0, .int .u64 0, .slice ba bn bc, .slice none 0 0] 76)) (by kernel_rfl) ?_
         have hPs : Bx (q48.alloc (.cells #[.int .u64 2, .slice none 0 0, .slice none 0 0, .int .u64 0, .slice (some ⟨w.heap.size, 1, none⟩) 16 16, .slice none 0 0, .int .u64 0, .slice ha 60 hc, .slice none 0 0, .int .u64 0, .slice ba bn bc, .slice none 0 0] 76)) q48.heap.size #[.int .u64 2, .slice none 0 0, .slice none 0 0, .int .u64 0, .slice (some ⟨w.heap.size, 1, none⟩) 16 16, .slice none 0 0, .int .u64 0, .slice ha 60 hc, .slice none 0 0, .int .u64 0, .slice ba bn bc, .slice none 0 0] := ⟨_, hp1_0 q48 _⟩
         have hb_ : Below q48.heap.size q48 (q48.alloc (.cells #[.int .u64 2, .slice none 0 0, .slice none 0 0, .int .u64 0, .slice (some ⟨w.heap.size, 1, none⟩) 16 16, .slice none 0 0, .int .u64 0, .slice ha 60 hc, .slice none 0 0, .int .u64 0, .slice ba bn bc, .slice none 0 0] 76)) := (Below.refl _ _).alloc (Nat.le_refl _) _
         replace RH := keep hb_ RH
         replace R3 := keep hb_ R3
         replace hH := hH.keep hb_
         replace hB := hB.keep hb_
         replace hC := rdc_keepH hC hb_
         replace hw := Below.after hw hb_
         clear hb_
         refine hK_ _ _ (RH) ?_
         simp only [Act.put, List.getElem_toArray, List.getElem_cons_succ, List.getElem_cons_zero, List.setIfInBounds_toArray, List.set_cons_succ, List.set_cons_zero]
         clear hK_
         generalize q48.alloc (.cells #[.int .u64 2, .slice none 0 0, .slice none 0 0, .int .u64 0, .slice (some ⟨w.heap.size, 1, none⟩) 16 16, .slice none 0 0, .int .u64 0, .slice ha 60 hc, .slice none 0 0, .int .u64 0, .slice ba bn bc, .slice none 0 0] 76) = q49 at *
         generalize q48.heap.size = gp at *
         refine wpAnyH_take (i := 17) (v := .agg #[.int .u64 0, .slice none 0 0, .slice (some ⟨gp, 0, none⟩) 4 4]) rfl (by kernel_rfl) (by kernel_rfl) (by kernel_rfl) (fun _ _ _ h => h) (Or.inl ⟨by rfl, ?y176⟩) (RH) ?r176
         case y176 =>
           intro w_ hS_
           go_simp
           try with_reducible rfl
         simp only [Act.put, List.getElem_toArray, List.getElem_cons_succ, List.getElem_cons_zero, List.setIfInBounds_toArray, List.set_cons_succ, List.set_cons_zero]
         refine wpAnyH_two (j := 18) (k := 22) (fuel := 6) (by kernel_rfl) rfl rfl (by kernel_rfl) (by kernel_rfl) (fun K_ hK_ => ?_) (fun K_ hK_ => ?_)
         · have cE := r_EncodeF esl2_flat (by decide) none 0 (.slice (some ⟨gp, 0, none⟩) 4 4) (exs 2 (w.heap.size) ha 60 hc ba bn bc) [[], nonce, hd, bd] rfl (esl_chk 2 _ _ _ _ _ _ h80 hmo) q49 hC (exs_prt (by decide) (by decide) (by have := hB.bn; omega) hPs) (exs_bys (by decide) hn RH hH hB b1 b2)
           rw [exs_fdk] at cE
           have cE2 := cE.mono (fun e w' h => (by obtain ⟨u, e1, e2, e3⟩ := h; exact ⟨_, e1, u, rfl, e2, e3⟩ : ∃ v, e = .returned v ∧ ∃ u, v = .tuple #[u, .agg #[.int .i64 0, .int .i64 0, .int .i64 0]] ∧ Own w' q49.heap.size u (eout (efs 2 nonce hd bd)) ∧ Below q49.heap.size q49 w'))
           refine wp_call_ex (R := fun v w' => ∃ u, v = .tuple #[u, .agg #[.int .i64 0, .int .i64 0, .int .i64 0]] ∧ Own w' q49.heap.size u (eout (efs 2 nonce hd bd)) ∧ Below q49.heap.size q49 w') (by kernel_rfl) cE2 (fun v_ q50 hX_ => ?_)
           obtain ⟨u, rfl, hU, hb_⟩ := hX_
           have hU2 := own_down hU hw.size
           have hne3 : ∀ k, u.ownBlock = some k → k ≠ w.heap.size + 1 := fun k e => by have := own_low hU k e; have := lt_of_row R3; omega
           clear cE cE2 hC hPs
           replace RH := keep hb_ RH
           replace R3 := keep hb_ R3
           replace hw := Below.after hw hb_
           clear hb_ hU hH hB
           obtain ⟨L, hL⟩ : ∃ L, (eout (efs 2 nonce hd bd)) = L := ⟨_, rfl⟩
           rw [hL] at hU2
           replace hL := hide hL
           obtain ⟨ua, uc, rfl⟩ := slen_own hU2
           refine hK_ _ _ (RH) ?_
           simp only [Act.put, List.getElem_toArray, List.getElem_cons_succ, List.getElem_cons_zero, List.setIfInBounds_toArray, List.set_cons_succ, List.set_cons_zero]
           clear hK_
           refine wpAnyH_take (i := 19) (v := ?v177) rfl (by kernel_rfl) (by kernel_rfl) (by kernel_rfl) (fun _ _ _ h => h) (Or.inl ⟨by rfl, ?y177⟩) (RH) ?r177
           case y177 =>
             intro w_ hS_
             go_simp
             try with_reducible rfl
           simp only [Act.put, List.getElem_toArray, List.getElem_cons_succ, List.getElem_cons_zero, List.setIfInBounds_toArray, List.set_cons_succ, List.set_cons_zero]
           refine wpAnyH_take (i := 20) (v := ?v178) rfl (by kernel_rfl) (by kernel_rfl) (by kernel_rfl) (fun _ _ _ h => h) (Or.inl ⟨by rfl, ?y178⟩) (RH) ?r178
           case y178 =>
             intro w_ hS_
             go_simp
             try with_reducible rfl
           simp only [Act.put, List.getElem_toArray, List.getElem_cons_succ, List.getElem_cons_zero, List.setIfInBounds_toArray, List.set_cons_succ, List.set_cons_zero]
           refine wpAnyH_take (i := 21) (v := ?v179) rfl (by kernel_rfl) (by kernel_rfl) (by kernel_rfl) (fun _ _ _ h => h) (Or.inl ⟨by rfl, ?y179⟩) (RH) ?r179
           case y179 =>
             intro w_ hS_
             go_simp
             try with_reducible rfl
           simp only [Act.put, List.getElem_toArray, List.getElem_cons_succ, List.getElem_cons_zero, List.setIfInBounds_toArray, List.set_cons_succ, List.set_cons_zero]
           refine wpAnyH_one (k := 22) (fuel := 2) (by kernel_rfl) rfl (by kernel_rfl) (fun K_ hK_ => ?_)
           have hne0 := fun k e => (own_lt hU2 k e).2
           refine wp_world_op (.pointer (some ⟨q50.heap.size, 0, none⟩)) (q50.alloc (.cells #[.int .i64 0, .int .i64 0, .int .i64 0] 35)) (by kernel_rfl) ?_
           have hb_ : Below q50.heap.size q50 (q50.alloc (.cells #[.int .i64 0, .int .i64 0, .int .i64 0] 35)) := (Below.refl _ _).alloc (Nat.le_refl _) _
           have sz_g53 : w.heap.size ≤ q50.heap.size := hw.size
           have lt_RH_g53 := lt_of_row RH
           have lt_R3_g53 := lt_of_row R3
           have RF := hp1_0 q50 (.cells #[.int .i64 0, .int .i64 0, .int .i64 0] 35)
           replace RH := keep hb_ RH
           replace R3 := keep hb_ R3
           replace hU2 := hU2.keep hb_
           replace hw := Below.after hw hb_
           clear hb_
           refine hK_ _ _ (RH) ?_
           simp only [Act.put, List.getElem_toArray, List.getElem_cons_succ, List.getElem_cons_zero, List.setIfInBounds_toArray, List.set_cons_succ, List.set_cons_zero]
           clear hK_
           generalize q50.alloc (.cells #[.int .i64 0, .int .i64 0, .int .i64 0] 35) = q52 at *
           generalize q50.heap.size = g53 at *
           have hne : ∀ k, (Value.slice ua L.length uc).ownBlock = some k → k ≠ g53 := fun k e => by have := hne0 k e; omega
           refine wpAnyH_take (i := 23) (v := ?v180) rfl (by kernel_rfl) (by kernel_rfl) (by kernel_rfl) (fun _ _ _ h => h) (Or.inl ⟨by rfl, ?y180⟩) (RH) ?r180
           case y180 =>
             intro w_ hS_
             go_simp
             try with_reducible rfl
           simp only [Act.put, List.getElem_toArray, List.getElem_cons_succ, List.getElem_cons_zero, List.setIfInBounds_toArray, List.set_cons_succ, List.set_cons_zero]
           refine wpAnyH_one (k := 24) (fuel := 0) (by kernel_rfl) rfl (by kernel_rfl) (fun K_ hK_ => ?_)
           refine wp_store_row 35 _ _ rfl (g53) #[.int .i64 0, .int .i64 0, .int .i64 0] rfl rfl 35 _ RF infoFt rfl hone ?_
           have l3_ := lt_of_row R3
           replace RH := (setRow_other q52 (g53) (w.heap.size) #[.int .i64 0, .int .i64 0, .int .i64 0] (by omega)).trans RH
           replace R3 := (setRow_other q52 (g53) (w.heap.size + 1) #[.int .i64 0, .int .i64 0, .int .i64 0] (by omega)).trans R3
           replace hU2 : Own (q52.setRow g53 #[.int .i64 0, .int .i64 0, .int .i64 0]) w.heap.size (.slice ua L.length uc) L := own_but hU2 fun q hq => setRow_other q52 (g53) q _ (by have := hne q hq; omega)
           replace hw := below_setRow hw (show w.heap.size ≤ g53 by omega) #[.int .i64 0, .int .i64 0, .int .i64 0]
           refine hK_ _ _ (RH) ?_
           simp only [Act.put, List.getElem_toArray, List.getElem_cons_succ, List.getElem_cons_zero]
           clear hK_
           generalize q52.setRow g53 #[.int .i64 0, .int .i64 0, .int .i64 0] = q54 at *
           refine wpAnyH_done (by kernel_rfl) ?_ _
           refine NoPanic.normal ?_
           have RX := hide (setRow_heap q54 (w.heap.size + 1) _ #[.int .i64 0, .int .i64 0, .int .i64 0] _ _ R3)
           have A1 : Hid (Own (q54.setRow (w.heap.size + 1) #[.int .i64 0, .int .i64 0, .int .i64 0]) w.heap.size (.slice ua L.length uc) L) := hide (own_but hU2 fun q hq => setRow_other q54 (w.heap.size + 1) q _ (by have := hne3 q hq; omega))
           have A2 := hide (below_setRow hw (show w.heap.size ≤ w.heap.size + 1 by omega) #[.int .i64 0, .int .i64 0, .int .i64 0])
           clear hU2 hw RH RF hne hne3
           go_wp2_with (first | (refine wpList_build_want rfl 35 _ rfl [] rfl #[.int .i64 0, .int .i64 0, .int .i64 0] builtZeR ?_) | (refine wpList_store_row rfl 35 _ _ rfl (w.heap.size + 1) #[.int .i64 0, .int .i64 0, .int .i64 0] rfl rfl 35 _ R3 infoFt rfl hone ?_) | fail)
           refine bodyPost_ret (results_slot_cell Tryz.results19 _ _ (w.heap.size + 1) _ _ _ _ rfl RX.out Tryz.underlying35 rfl infoFt) rfl ⟨⟨.slice ua L.length uc, ?_, ?_⟩, A2.out⟩
           · rw [hpk.out]; rfl
           · rw [hpk.out]
             show Own _ _ _ (eout (efs 2 nonce hd bd))
             rw [hL.out]
             exact A1.out
         · refine wp_world_op (.pointer (some ⟨q49.heap.size, 0, none⟩)) (q49.alloc (.cells #[.int .i64 0, .int .i64 0, .int .i64 0] 35)) (by kernel_rfl) ?_
           have hb_ : Below q49.heap.size q49 (q49.alloc (.cells #[.int .i64 0, .int .i64 0, .int .i64 0] 35)) := (Below.refl _ _).alloc (Nat.le_refl _) _
           have sz_g57 : w.heap.size ≤ q49.heap.size := hw.size
           have lt_RH_g57 := lt_of_row RH
           have lt_R3_g57 := lt_of_row R3
           have RF := hp1_0 q49 (.cells #[.int .i64 0, .int .i64 0, .int .i64 0] 35)
           replace RH := keep hb_ RH
           replace R3 := keep hb_ R3
           replace hH := hH.keep hb_
           replace hB := hB.keep hb_
           replace hC := rdc_keepH hC hb_
           replace hPs := hPs.keep hb_
           replace hw := Below.after hw hb_
           clear hb_
           refine hK_ _ _ (RH) ?_
           simp only [Act.put, List.getElem_toArray, List.getElem_cons_succ, List.getElem_cons_zero, List.setIfInBounds_toArray, List.set_cons_succ, List.set_cons_zero]
           clear hK_
           generalize q49.alloc (.cells #[.int .i64 0, .int .i64 0, .int .i64 0] 35) = q56 at *
           generalize q49.heap.size = g57 at *
           refine wpAnyH_one (k := 18) (fuel := 5) (by kernel_rfl) rfl (by kernel_rfl) (fun K_ hK_ => ?_)
           have cE := r_EncodeF esl2_flat (by decide) none 0 (.slice (some ⟨gp, 0, none⟩) 4 4) (exs 2 (w.heap.size) ha 60 hc ba bn bc) [[], nonce, hd, bd] rfl (esl_chk 2 _ _ _ _ _ _ h80 hmo) q56 hC (exs_prt (by decide) (by decide) (by have := hB.bn; omega) hPs) (exs_bys (by decide) hn RH hH hB b1 b2)
           rw [exs_fdk] at cE
           have cE2 := cE.mono (fun e w' h => (by obtain ⟨u, e1, e2, e3⟩ := h; exact ⟨_, e1, u, rfl, e2, e3⟩ : ∃ v, e = .returned v ∧ ∃ u, v = .tuple #[u, .agg #[.int .i64 0, .int .i64 0, .int .i64 0]] ∧ Own w' q56.heap.size u (eout (efs 2 nonce hd bd)) ∧ Below q56.heap.size q56 w'))
           refine wp_call_ex (R := fun v w' => ∃ u, v = .tuple #[u, .agg #[.int .i64 0, .int .i64 0, .int .i64 0]] ∧ Own w' q56.heap.size u (eout (efs 2 nonce hd bd)) ∧ Below q56.heap.size q56 w') (by kernel_rfl) cE2 (fun v_ q58 hX_ => ?_)
           obtain ⟨u, rfl, hU, hb_⟩ := hX_
           have hU2 := own_down hU hw.size
           have hne3 : ∀ k, u.ownBlock = some k → k ≠ w.heap.size + 1 := fun k e => by have := own_low hU k e; have := lt_of_row R3; omega
           have hne : ∀ k, u.ownBlock = some k → k ≠ g57 := fun k e => by have := own_low hU k e; have := lt_of_row RF; omega
           clear cE cE2 hC hPs
           replace RH := keep hb_ RH
           replace R3 := keep hb_ R3
           replace RF := keep hb_ RF
           replace hw := Below.after hw hb_
           clear hb_ hU hH hB
           obtain ⟨L, hL⟩ : ∃ L, (eout (efs 2 nonce hd bd)) = L := ⟨_, rfl⟩
           rw [hL] at hU2
           replace hL := hide hL
           obtain ⟨ua, uc, rfl⟩ := slen_own hU2
           refine hK_ _ _ (RH) ?_
           simp only [Act.put, List.getElem_toArray, List.getElem_cons_succ, List.getElem_cons_zero, List.setIfInBounds_toArray, List.set_cons_succ, List.set_cons_zero]
           clear hK_
           refine wpAnyH_take (i := 19) (v := ?v181) rfl (by kernel_rfl) (by kernel_rfl) (by kernel_rfl) (fun _ _ _ h => h) (Or.inl ⟨by rfl, ?y181⟩) (RH) ?r181
           case y181 =>
             intro w_ hS_
             go_simp
             try with_reducible rfl
           simp only [Act.put, List.getElem_toArray, List.getElem_cons_succ, List.getElem_cons_zero, List.setIfInBounds_toArray, List.set_cons_succ, List.set_cons_zero]
           refine wpAnyH_take (i := 20) (v := ?v182) rfl (by kernel_rfl) (by kernel_rfl) (by kernel_rfl) (fun _ _ _ h => h) (Or.inl ⟨by rfl, ?y182⟩) (RH) ?r182
           case y182 =>
             intro w_ hS_
             go_simp
             try with_reducible rfl
           simp only [Act.put, List.getElem_toArray, List.getElem_cons_succ, List.getElem_cons_zero, List.setIfInBounds_toArray, List.set_cons_succ, List.set_cons_zero]
           refine wpAnyH_take (i := 21) (v := ?v183) rfl (by kernel_rfl) (by kernel_rfl) (by kernel_rfl) (fun _ _ _ h => h) (Or.inl ⟨by rfl, ?y183⟩) (RH) ?r183
           case y183 =>
             intro w_ hS_
             go_simp
             try with_reducible rfl
           simp only [Act.put, List.getElem_toArray, List.getElem_cons_succ, List.getElem_cons_zero, List.setIfInBounds_toArray, List.set_cons_succ, List.set_cons_zero]
           refine wpAnyH_take (i := 23) (v := ?v184) rfl (by kernel_rfl) (by kernel_rfl) (by kernel_rfl) (fun _ _ _ h => h) (Or.inl ⟨by rfl, ?y184⟩) (RH) ?r184
           case y184 =>
             intro w_ hS_
             go_simp
             try with_reducible rfl
           simp only [Act.put, List.getElem_toArray, List.getElem_cons_succ, List.getElem_cons_zero, List.setIfInBounds_toArray, List.set_cons_succ, List.set_cons_zero]
           refine wpAnyH_one (k := 24) (fuel := 0) (by kernel_rfl) rfl (by kernel_rfl) (fun K_ hK_ => ?_)
           refine wp_store_row 35 _ _ rfl (g57) #[.int .i64 0, .int .i64 0, .int .i64 0] rfl rfl 35 _ RF infoFt rfl hone ?_
           have l3_ := lt_of_row R3
           replace RH := (setRow_other q58 (g57) (w.heap.size) #[.int .i64 0, .int .i64 0, .int .i64 0] (by omega)).trans RH
           replace R3 := (setRow_other q58 (g57) (w.heap.size + 1) #[.int .i64 0, .int .i64 0, .int .i64 0] (by omega)).trans R3
           replace hU2 : Own (q58.setRow g57 #[.int .i64 0, .int .i64 0, .int .i64 0]) w.heap.size (.slice ua L.length uc) L := own_but hU2 fun q hq => setRow_other q58 (g57) q _ (by have := hne q hq; omega)
           replace hw := below_setRow hw (show w.heap.size ≤ g57 by omega) #[.int .i64 0, .int .i64 0, .int .i64 0]
           refine hK_ _ _ (RH) ?_
           simp only [Act.put, List.getElem_toArray, List.getElem_cons_succ, List.getElem_cons_zero]
           clear hK_
           generalize q58.setRow g57 #[.int .i64 0, .int .i64 0, .int .i64 0] = q59 at *
           refine wpAnyH_done (by kernel_rfl) ?_ _
           refine NoPanic.normal ?_
           have RX := hide (setRow_heap q59 (w.heap.size + 1) _ #[.int .i64 0, .int .i64 0, .int .i64 0] _ _ R3)
           have A1 : Hid (Own (q59.setRow (w.heap.size + 1) #[.int .i64 0, .int .i64 0, .int .i64 0]) w.heap.size (.slice ua L.length uc) L) := hide (own_but hU2 fun q hq => setRow_other q59 (w.heap.size + 1) q _ (by have := hne3 q hq; omega))
           have A2 := hide (below_setRow hw (show w.heap.size ≤ w.heap.size + 1 by omega) #[.int .i64 0, .int .i64 0, .int .i64 0])
           clear hU2 hw RH RF hne hne3
           go_wp2_with (first | (refine wpList_build_want rfl 35 _ rfl [] rfl #[.int .i64 0, .int .i64 0, .int .i64 0] builtZeR ?_) | (refine wpList_store_row rfl 35 _ _ rfl (w.heap.size + 1) #[.int .i64 0, .int .i64 0, .int .i64 0] rfl rfl 35 _ R3 infoFt rfl hone ?_) | fail)
           refine bodyPost_ret (results_slot_cell Tryz.results19 _ _ (w.heap.size + 1) _ _ _ _ rfl RX.out Tryz.underlying35 rfl infoFt) rfl ⟨⟨.slice ua L.length uc, ?_, ?_⟩, A2.out⟩
           · rw [hpk.out]; rfl
           · rw [hpk.out]
             show Own _ _ _ (eout (efs 2 nonce hd bd))
             rw [hL.out]
             exact A1.out
       · refine wp_world_op (.pointer (some ⟨q48.heap.size, 0, none⟩)) (q48.alloc (.cells #[.int .i64 0, .int .i64 0, .int .i64 0] 35)) (by kernel_rfl) ?_
         have hb_ : Below q48.heap.size q48 (q48.alloc (.cells #[.int .i64 0, .int .i64 0, .int .i64 0] 35)) := (Below.refl _ _).alloc (Nat.le_refl _) _
         have sz_g62 : w.heap.size ≤ q48.heap.size := hw.size
         have lt_RH_g62 := lt_of_row RH
         have lt_R3_g62 := lt_of_row R3
         have RF := hp1_0 q48 (.cells #[.int .i64 0, .int .i64 0, .int .i64 0] 35)
         replace RH := keep hb_ RH
         replace R3 := keep hb_ R3
         replace hH := hH.keep hb_
         replace hB := hB.keep hb_
         replace hC := rdc_keepH hC hb_
         replace hw := Below.after hw hb_
         clear hb_
         refine hK_ _ _ (RH) ?_
         simp only [Act.put, List.getElem_toArray, List.getElem_cons_succ, List.getElem_cons_zero, List.setIfInBounds_toArray, List.set_cons_succ, List.set_cons_zero]
         clear hK_
         generalize q48.alloc (.cells #[.int .i64 0, .int .i64 0, .int .i64 0] 35) = q61 at *
         generalize q48.heap.size = g62 at *
         refine wpAnyH_one (k := 16) (fuel := 7) (by kernel_rfl) rfl (by kernel_rfl) (fun K_ hK_ => ?_)
         refine wp_val_op (.slice (some ⟨q61.heap.size, 0, none⟩) 4 4) (w' := q61.alloc (.cells #[.int .u64 2, .slice none 0 0, .slice none 0 0, .int .u64 0, .slice (some ⟨w.heap.size, 1, none⟩) 16 16, .slice none 0 0, .int .u64 0, .slice ha 60 hc, .slice none 0 0, .int .u64 0, .slice ba bn bc, .slice none 0 0] 76)) (by kernel_rfl) ?_
         have hPs : Bx (q61.alloc (.cells #[.int .u64 2, .slice none 0 0, .slice none 0 0, .int .u64 0, .slice (some ⟨w.heap.size, 1, none⟩) 16 16, .slice none 0 0, .int .u64 0, .slice ha 60 hc, .slice none 0 0, .int .u64 0, .slice ba bn bc, .slice none 0 0] 76)) q61.heap.size #[.int .u64 2, .slice none 0 0, .slice none 0 0, .int .u64 0, .slice (some ⟨w.heap.size, 1, none⟩) 16 16, .slice none 0 0, .int .u64 0, .slice ha 60 hc, .slice none 0 0, .int .u64 0, .slice ba bn bc, .slice none 0 0] := ⟨_, hp1_0 q61 _⟩
         have hb_ : Below q61.heap.size q61 (q61.alloc (.cells #[.int .u64 2, .slice none 0 0, .slice none 0 0, .int .u64 0, .slice (some ⟨w.heap.size, 1, none⟩) 16 16, .slice none 0 0, .int .u64 0, .slice ha 60 hc, .slice none 0 0, .int .u64 0, .slice ba bn bc, .slice none 0 0] 76)) := (Below.refl _ _).alloc (Nat.le_refl _) _
         replace RH := keep hb_ RH
         replace R3 := keep hb_ R3
         replace RF := keep hb_ RF
         replace hH := hH.keep hb_
         replace hB := hB.keep hb_
         replace hC := rdc_keepH hC hb_
         replace hw := Below.after hw hb_
         clear hb_
         refine hK_ _ _ (RH) ?_
         simp only [Act.put, List.getElem_toArray, List.getElem_cons_succ, List.getElem_cons_zero, List.setIfInBounds_toArray, List.set_cons_succ, List.set_cons_zero]
         clear hK_
         generalize q61.alloc (.cells #[.int .u64 2, .slice none 0 0, .slice none 0 0, .int .u64 0, .slice (some ⟨w.heap.size, 1, none⟩) 16 16, .slice none 0 0, .int .u64 0, .slice ha 60 hc, .slice none 0 0, .int .u64 0, .slice ba bn bc, .slice none 0 0] 76) = q63 at *
         generalize q61.heap.size = gp at *
         refine wpAnyH_take (i := 17) (v := .agg #[.int .u64 0, .slice none 0 0, .slice (some ⟨gp, 0, none⟩) 4 4]) rfl (by kernel_rfl) (by kernel_rfl) (by kernel_rfl) (fun _ _ _ h => h) (Or.inl ⟨by rfl, ?y185⟩) (RH) ?r185
         case y185 =>
           intro w_ hS_
           go_simp
           try with_reducible rfl
         simp only [Act.put, List.getElem_toArray, List.getElem_cons_succ, List.getElem_cons_zero, List.setIfInBounds_toArray, List.set_cons_succ, List.set_cons_zero]
         refine wpAnyH_one (k := 18) (fuel := 5) (by kernel_rfl) rfl (by kernel_rfl) (fun K_ hK_ => ?_)
         have cE := r_EncodeF esl2_flat (by decide) none 0 (.slice (some ⟨gp, 0, none⟩) 4 4) (exs 2 (w.heap.size) ha 60 hc ba bn bc) [[], nonce, hd, bd] rfl (esl_chk 2 _ _ _ _ _ _ h80 hmo) q63 hC (exs_prt (by decide) (by decide) (by have := hB.bn; omega) hPs) (exs_bys (by decide) hn RH hH hB b1 b2)
         rw [exs_fdk] at cE
         have cE2 := cE.mono (fun e w' h => (by obtain ⟨u, e1, e2, e3⟩ := h; exact ⟨_, e1, u, rfl, e2, e3⟩ : ∃ v, e = .returned v ∧ ∃ u, v = .tuple #[u, .agg #[.int .i64 0, .int .i64 0, .int .i64 0]] ∧ Own w' q63.heap.size u (eout (efs 2 nonce hd bd)) ∧ Below q63.heap.size q63 w'))
         refine wp_call_ex (R := fun v w' => ∃ u, v = .tuple #[u, .agg #[.int .i64 0, .int .i64 0, .int .i64 0]] ∧ Own w' q63.heap.size u (eout (efs 2 nonce hd bd)) ∧ Below q63.heap.size q63 w') (by kernel_rfl) cE2 (fun v_ q64 hX_ => ?_)
         obtain ⟨u, rfl, hU, hb_⟩ := hX_
         have hU2 := own_down hU hw.size
         have hne3 : ∀ k, u.ownBlock = some k → k ≠ w.heap.size + 1 := fun k e => by have := own_low hU k e; have := lt_of_row R3; omega
         have hne : ∀ k, u.ownBlock = some k → k ≠ g62 := fun k e => by have := own_low hU k e; have := lt_of_row RF; omega
         clear cE cE2 hC hPs
         replace RH := keep hb_ RH
         replace R3 := keep hb_ R3
         replace RF := keep hb_ RF
         replace hw := Below.after hw hb_
         clear hb_ hU hH hB
         obtain ⟨L, hL⟩ : ∃ L, (eout (efs 2 nonce hd bd)) = L := ⟨_, rfl⟩
         rw [hL] at hU2
         replace hL := hide hL
         obtain ⟨ua, uc, rfl⟩ := slen_own hU2
         refine hK_ _ _ (RH) ?_
         simp only [Act.put, List.getElem_toArray, List.getElem_cons_succ, List.getElem_cons_zero, List.setIfInBounds_toArray, List.set_cons_succ, List.set_cons_zero]
         clear hK_
         refine wpAnyH_take (i := 19) (v := ?v186) rfl (by kernel_rfl) (by kernel_rfl) (by kernel_rfl) (fun _ _ _ h => h) (Or.inl ⟨by rfl, ?y186⟩) (RH) ?r186
         case y186 =>
           intro w_ hS_
           go_simp
           try with_reducible rfl
         simp only [Act.put, List.getElem_toArray, List.getElem_cons_succ, List.getElem_cons_zero, List.setIfInBounds_toArray, List.set_cons_succ, List.set_cons_zero]
         refine wpAnyH_take (i := 20) (v := ?v187) rfl (by kernel_rfl) (by kernel_rfl) (by kernel_rfl) (fun _ _ _ h => h) (Or.inl ⟨by rfl, ?y187⟩) (RH) ?r187
         case y187 =>
           intro w_ hS_
           go_simp
           try with_reducible rfl
         simp only [Act.put, List.getElem_toArray, List.getElem_cons_succ, List.getElem_cons_zero, List.setIfInBounds_toArray, List.set_cons_succ, List.set_cons_zero]
         refine wpAnyH_take (i := 21) (v := ?v188) rfl (by kernel_rfl) (by kernel_rfl) (by kernel_rfl) (fun _ _ _ h => h) (Or.inl ⟨by rfl, ?y188⟩) (RH) ?r188
         case y188 =>
           intro w_ hS_
           go_simp
           try with_reducible rfl
         simp only [Act.put, List.getElem_toArray, List.getElem_cons_succ, List.getElem_cons_zero, List.setIfInBounds_toArray, List.set_cons_succ, List.set_cons_zero]
         refine wpAnyH_take (i := 23) (v := ?v189) rfl (by kernel_rfl) (by kernel_rfl) (by kernel_rfl) (fun _ _ _ h => h) (Or.inl ⟨by rfl, ?y189⟩) (RH) ?r189
         case y189 =>
           intro w_ hS_
           go_simp
           try with_reducible rfl
         simp only [Act.put, List.getElem_toArray, List.getElem_cons_succ, List.getElem_cons_zero, List.setIfInBounds_toArray, List.set_cons_succ, List.set_cons_zero]
         refine wpAnyH_one (k := 24) (fuel := 0) (by kernel_rfl) rfl (by kernel_rfl) (fun K_ hK_ => ?_)
         refine wp_store_row 35 _ _ rfl (g62) #[.int .i64 0, .int .i64 0, .int .i64 0] rfl rfl 35 _ RF infoFt rfl hone ?_
         have l3_ := lt_of_row R3
         replace RH := (setRow_other q64 (g62) (w.heap.size) #[.int .i64 0, .int .i64 0, .int .i64 0] (by omega)).trans RH
         replace R3 := (setRow_other q64 (g62) (w.heap.size + 1) #[.int .i64 0, .int .i64 0, .int .i64 0] (by omega)).trans R3
         replace hU2 : Own (q64.setRow g62 #[.int .i64 0, .int .i64 0, .int .i64 0]) w.heap.size (.slice ua L.length uc) L := own_but hU2 fun q hq => setRow_other q64 (g62) q _ (by have := hne q hq; omega)
         replace hw := below_setRow hw (show w.heap.size ≤ g62 by omega) #[.int .i64 0, .int .i64 0, .int .i64 0]
         refine hK_ _ _ (RH) ?_
         simp only [Act.put, List.getElem_toArray, List.getElem_cons_succ, List.getElem_cons_zero]
         clear hK_
         generalize q64.setRow g62 #[.int .i64 0, .int .i64 0, .int .i64 0] = q65 at *
         refine wpAnyH_done (by kernel_rfl) ?_ _
         refine NoPanic.normal ?_
         have RX := hide (setRow_heap q65 (w.heap.size + 1) _ #[.int .i64 0, .int .i64 0, .int .i64 0] _ _ R3)
         have A1 : Hid (Own (q65.setRow (w.heap.size + 1) #[.int .i64 0, .int .i64 0, .int .i64 0]) w.heap.size (.slice ua L.length uc) L) := hide (own_but hU2 fun q hq => setRow_other q65 (w.heap.size + 1) q _ (by have := hne3 q hq; omega))
         have A2 := hide (below_setRow hw (show w.heap.size ≤ w.heap.size + 1 by omega) #[.int .i64 0, .int .i64 0, .int .i64 0])
         clear hU2 hw RH RF hne hne3
         go_wp2_with (first | (refine wpList_build_want rfl 35 _ rfl [] rfl #[.int .i64 0, .int .i64 0, .int .i64 0] builtZeR ?_) | (refine wpList_store_row rfl 35 _ _ rfl (w.heap.size + 1) #[.int .i64 0, .int .i64 0, .int .i64 0] rfl rfl 35 _ R3 infoFt rfl hone ?_) | fail)
         refine bodyPost_ret (results_slot_cell Tryz.results19 _ _ (w.heap.size + 1) _ _ _ _ rfl RX.out Tryz.underlying35 rfl infoFt) rfl ⟨⟨.slice ua L.length uc, ?_, ?_⟩, A2.out⟩
         · rw [hpk.out]; rfl
         · rw [hpk.out]
           show Own _ _ _ (eout (efs 2 nonce hd bd))
           rw [hL.out]
           exact A1.out
     · refine wp_val_op (.slice (some ⟨w1.heap.size, 0, none⟩) 4 4) (w' := w1.alloc (.cells #[.int .u64 2, .slice none 0 0, .slice none 0 0, .int .u64 0, .slice (some ⟨w.heap.size, 1, none⟩) 16 16, .slice none 0 0, .int .u64 0, .slice ha 60 hc, .slice none 0 0, .int .u64 0, .slice ba bn bc, .slice none 0 0] 76)) (by kernel_rfl) ?_
       have hPs : Bx (w1.alloc (.cells #[.int .u64 2, .slice none 0 0, .slice none 0 0, .int .u64 0, .slice (some ⟨w.heap.size, 1, none⟩) 16 16, .slice none 0 0, .int .u64 0, .slice ha 60 hc, .slice none 0 0, .int .u64 0, .slice ba bn bc, .slice none 0 0] 76)) w1.heap.size #[.int .u64 2, .slice none 0 0, .slice none 0 0, .int .u64 0, .slice (some ⟨w.heap.size, 1, none⟩) 16 16, .slice none 0 0, .int .u64 0, .slice ha 60 hc, .slice none 0 0, .int .u64 0, .slice ba bn bc, .slice none 0 0] := ⟨_, hp1_0 w1 _⟩
       have hb_ : Below w1.heap.size w1 (w1.alloc (.cells #[.int .u64 2, .slice none 0 0, .slice none 0 0, .int .u64 0, .slice (some ⟨w.heap.size, 1, none⟩) 16 16, .slice none 0 0, .int .u64 0, .slice ha 60 hc, .slice none 0 0, .int .u64 0, .slice ba bn bc, .slice none 0 0] 76)) := (Below.refl _ _).alloc (Nat.le_refl _) _
       replace RH := keep hb_ RH
       replace R3 := keep hb_ R3
       replace hH := hH.keep hb_
       replace hB := hB.keep hb_
       replace hw := Below.after hw hb_
       clear hb_
       refine hK_ _ _ (RH) ?_
       simp only [Act.put, List.getElem_toArray, List.getElem_cons_succ, List.getElem_cons_zero, List.setIfInBounds_toArray, List.set_cons_succ, List.set_cons_zero]
       clear hK_
       generalize w1.alloc (.cells #[.int .u64 2, .slice none 0 0, .slice none 0 0, .int .u64 0, .slice (some ⟨w.heap.size, 1, none⟩) 16 16, .slice none 0 0, .int .u64 0, .slice ha 60 hc, .slice none 0 0, .int .u64 0, .slice ba bn bc, .slice none 0 0] 76) = q66 at *
       generalize w1.heap.size = gp at *
       refine wpAnyH_take (i := 17) (v := .agg #[.int .u64 0, .slice none 0 0, .slice (some ⟨gp, 0, none⟩) 4 4]) rfl (by kernel_rfl) (by kernel_rfl) (by kernel_rfl) (fun _ _ _ h => h) (Or.inl ⟨by rfl, ?y190⟩) (RH) ?r190
       case y190 =>
         intro w_ hS_
         go_simp
         try with_reducible rfl
       simp only [Act.put, List.getElem_toArray, List.getElem_cons_succ, List.getElem_cons_zero, List.setIfInBounds_toArray, List.set_cons_succ, List.set_cons_zero]
       refine wpAnyH_two (j := 2) (k := 22) (fuel := 7) (by kernel_rfl) rfl rfl (by kernel_rfl) (by kernel_rfl) (fun K_ hK_ => ?_) (fun K_ hK_ => ?_)
       · have cH := (r_shapeE2 q66).mono (fun e w' h => (by obtain ⟨x, h1, ⟨q, h2, _, h3⟩, h4⟩ := h; exact ⟨_, h1, q, h2, h3, h4⟩ : ∃ v, e = .returned v ∧ ∃ q, v = .pointer (some ⟨q, 0, none⟩) ∧ Rdc w' q (esl 2) ∧ Below q66.heap.size q66 w'))
         refine wp_call_ex (R := fun v w' => ∃ q, v = .pointer (some ⟨q, 0, none⟩) ∧ Rdc w' q (esl 2) ∧ Below q66.heap.size q66 w') (by kernel_rfl) cH (fun v_ q67 hX_ => ?_)
         obtain ⟨q, rfl, hC, hb_⟩ := hX_
         replace RH := keep hb_ RH
         replace R3 := keep hb_ R3
         replace hH := hH.keep hb_
         replace hB := hB.keep hb_
         replace hPs := hPs.keep hb_
         replace hw := Below.after hw hb_
         clear hb_ cH
         refine hK_ _ _ (RH) ?_
         simp only [Act.put, List.getElem_toArray, List.getElem_cons_succ, List.getElem_cons_zero, List.setIfInBounds_toArray, List.set_cons_succ, List.set_cons_zero]
         clear hK_
         refine wpAnyH_two (j := 18) (k := 22) (fuel := 6) (by kernel_rfl) rfl rfl (by kernel_rfl) (by kernel_rfl) (fun K_ hK_ => ?_) (fun K_ hK_ => ?_)
         · have cE := r_EncodeF esl2_flat (by decide) none 0 (.slice (some ⟨gp, 0, none⟩) 4 4) (exs 2 (w.heap.size) ha 60 hc ba bn bc) [[], nonce, hd, bd] rfl (esl_chk 2 _ _ _ _ _ _ h80 hmo) q67 hC (exs_prt (by decide) (by decide) (by have := hB.bn; omega) hPs) (exs_bys (by decide) hn RH hH hB b1 b2)
           rw [exs_fdk] at cE
           have cE2 := cE.mono (fun e w' h => (by obtain ⟨u, e1, e2, e3⟩ := h; exact ⟨_, e1, u, rfl, e2, e3⟩ : ∃ v, e = .returned v ∧ ∃ u, v = .tuple #[u, .agg #[.int .i64 0, .int .i64 0, .int .i64 0]] ∧ Own w' q67.heap.size u (eout (efs 2 nonce hd bd)) ∧ Below q67.heap.size q67 w'))
           refine wp_call_ex (R := fun v w' => ∃ u, v = .tuple #[u, .agg #[.int .i64 0, .int .i64 0, .int .i64 0]] ∧ Own w' q67.heap.size u (eout (efs 2 nonce hd bd)) ∧ Below q67.heap.size q67 w') (by kernel_rfl) cE2 (fun v_ q68 hX_ => ?_)
           obtain ⟨u, rfl, hU, hb_⟩ := hX_
           have hU2 := own_down hU hw.size
           have hne3 : ∀ k, u.ownBlock = some k → k ≠ w.heap.size + 1 := fun k e => by have := own_low hU k e; have := lt_of_row R3; omega
           clear cE cE2 hC hPs
           replace RH := keep hb_ RH
           replace R3 := keep hb_ R3
           replace hw := Below.after hw hb_
           clear hb_ hU hH hB
           obtain ⟨L, hL⟩ : ∃ L, (eout (efs 2 nonce hd bd)) = L := ⟨_, rfl⟩
           rw [hL] at hU2
           replace hL := hide hL
           obtain ⟨ua, uc, rfl⟩ := slen_own hU2
           refine hK_ _ _ (RH) ?_
           simp only [Act.put, List.getElem_toArray, List.getElem_cons_succ, List.getElem_cons_zero, List.setIfInBounds_toArray, List.set_cons_succ, List.set_cons_zero]
           clear hK_
           refine wpAnyH_take (i := 19) (v := ?v191) rfl (by kernel_rfl) (by kernel_rfl) (by kernel_rfl) (fun _ _ _ h => h) (Or.inl ⟨by rfl, ?y191⟩) (RH) ?r191
           case y191 =>
             intro w_ hS_
             go_simp
             try with_reducible rfl
           simp only [Act.put, List.getElem_toArray, List.getElem_cons_succ, List.getElem_cons_zero, List.setIfInBounds_toArray, List.set_cons_succ, List.set_cons_zero]
           refine wpAnyH_take (i := 20) (v := ?v192) rfl (by kernel_rfl) (by kernel_rfl) (by kernel_rfl) (fun _ _ _ h => h) (Or.inl ⟨by rfl, ?y192⟩) (RH) ?r192
           case y192 =>
             intro w_ hS_
             go_simp
             try with_reducible rfl
           simp only [Act.put, List.getElem_toArray, List.getElem_cons_succ, List.getElem_cons_zero, List.setIfInBounds_toArray, List.set_cons_succ, List.set_cons_zero]
           refine wpAnyH_take (i := 21) (v := ?v193) rfl (by kernel_rfl) (by kernel_rfl) (by kernel_rfl) (fun _ _ _ h => h) (Or.inl ⟨by rfl, ?y193⟩) (RH) ?r193
           case y193 =>
             intro w_ hS_
             go_simp
             try with_reducible rfl
           simp only [Act.put, List.getElem_toArray, List.getElem_cons_succ, List.getElem_cons_zero, List.setIfInBounds_toArray, List.set_cons_succ, List.set_cons_zero]
           refine wpAnyH_one (k := 22) (fuel := 2) (by kernel_rfl) rfl (by kernel_rfl) (fun K_ hK_ => ?_)
           have hne0 := fun k e => (own_lt hU2 k e).2
           refine wp_world_op (.pointer (some ⟨q68.heap.size, 0, none⟩)) (q68.alloc (.cells #[.int .i64 0, .int .i64 0, .int .i64 0] 35)) (by kernel_rfl) ?_
           have hb_ : Below q68.heap.size q68 (q68.alloc (.cells #[.int .i64 0, .int .i64 0, .int .i64 0] 35)) := (Below.refl _ _).alloc (Nat.le_refl _) _
           have sz_g71 : w.heap.size ≤ q68.heap.size := hw.size
           have lt_RH_g71 := lt_of_row RH
           have lt_R3_g71 := lt_of_row R3
           have RF := hp1_0 q68 (.cells #[.int .i64 0, .int .i64 0, .int .i64 0] 35)
           replace RH := keep hb_ RH
           replace R3 := keep hb_ R3
           replace hU2 := hU2.keep hb_
           replace hw := Below.after hw hb_
           clear hb_
           refine hK_ _ _ (RH) ?_
           simp only [Act.put, List.getElem_toArray, List.getElem_cons_succ, List.getElem_cons_zero, List.setIfInBounds_toArray, List.set_cons_succ, List.set_cons_zero]
           clear hK_
           generalize q68.alloc (.cells #[.int .i64 0, .int .i64 0, .int .i64 0] 35) = q70 at *
           generalize q68.heap.size = g71 at *
           have hne : ∀ k, (Value.slice ua L.length uc).ownBlock = some k → k ≠ g71 := fun k e => by have := hne0 k e; omega
           refine wpAnyH_take (i := 23) (v := ?v194) rfl (by kernel_rfl) (by kernel_rfl) (by kernel_rfl) (fun _ _ _ h => h) (Or.inl ⟨by rfl, ?y194⟩) (RH) ?r194
           case y194 =>
             intro w_ hS_
             go_simp
             try with_reducible rfl
           simp only [Act.put, List.getElem_toArray, List.getElem_cons_succ, List.getElem_cons_zero, List.setIfInBounds_toArray, List.set_cons_succ, List.set_cons_zero]
           refine wpAnyH_one (k := 24) (fuel := 0) (by kernel_rfl) rfl (by kernel_rfl) (fun K_ hK_ => ?_)
           refine wp_store_row 35 _ _ rfl (g71) #[.int .i64 0, .int .i64 0, .int .i64 0] rfl rfl 35 _ RF infoFt rfl hone ?_
           have l3_ := lt_of_row R3
           replace RH := (setRow_other q70 (g71) (w.heap.size) #[.int .i64 0, .int .i64 0, .int .i64 0] (by omega)).trans RH
           replace R3 := (setRow_other q70 (g71) (w.heap.size + 1) #[.int .i64 0, .int .i64 0, .int .i64 0] (by omega)).trans R3
           replace hU2 : Own (q70.setRow g71 #[.int .i64 0, .int .i64 0, .int .i64 0]) w.heap.size (.slice ua L.length uc) L := own_but hU2 fun q hq => setRow_other q70 (g71) q _ (by have := hne q hq; omega)
           replace hw := below_setRow hw (show w.heap.size ≤ g71 by omega) #[.int .i64 0, .int .i64 0, .int .i64 0]
           refine hK_ _ _ (RH) ?_
           simp only [Act.put, List.getElem_toArray, List.getElem_cons_succ, List.getElem_cons_zero]
           clear hK_
           generalize q70.setRow g71 #[.int .i64 0, .int .i64 0, .int .i64 0] = q72 at *
           refine wpAnyH_done (by kernel_rfl) ?_ _
           refine NoPanic.normal ?_
           have RX := hide (setRow_heap q72 (w.heap.size + 1) _ #[.int .i64 0, .int .i64 0, .int .i64 0] _ _ R3)
           have A1 : Hid (Own (q72.setRow (w.heap.size + 1) #[.int .i64 0, .int .i64 0, .int .i64 0]) w.heap.size (.slice ua L.length uc) L) := hide (own_but hU2 fun q hq => setRow_other q72 (w.heap.size + 1) q _ (by have := hne3 q hq; omega))
           have A2 := hide (below_setRow hw (show w.heap.size ≤ w.heap.size + 1 by omega) #[.int .i64 0, .int .i64 0, .int .i64 0])
           clear hU2 hw RH RF hne hne3
           go_wp2_with (first | (refine wpList_build_want rfl 35 _ rfl [] rfl #[.int .i64 0, .int .i64 0, .int .i64 0] builtZeR ?_) | (refine wpList_store_row rfl 35 _ _ rfl (w.heap.size + 1) #[.int .i64 0, .int .i64 0, .int .i64 0] rfl rfl 35 _ R3 infoFt rfl hone ?_) | fail)
           refine bodyPost_ret (results_slot_cell Tryz.results19 _ _ (w.heap.size + 1) _ _ _ _ rfl RX.out Tryz.underlying35 rfl infoFt) rfl ⟨⟨.slice ua L.length uc, ?_, ?_⟩, A2.out⟩
           · rw [hpk.out]; rfl
           · rw [hpk.out]
             show Own _ _ _ (eout (efs 2 nonce hd bd))
             rw [hL.out]
             exact A1.out
         · refine wp_world_op (.pointer (some ⟨q67.heap.size, 0, none⟩)) (q67.alloc (.cells #[.int .i64 0, .int .i64 0, .int .i64 0] 35)) (by kernel_rfl) ?_
           have hb_ : Below q67.heap.size q67 (q67.alloc (.cells #[.int .i64 0, .int .i64 0, .int .i64 0] 35)) := (Below.refl _ _).alloc (Nat.le_refl _) _
           have sz_g75 : w.heap.size ≤ q67.heap.size := hw.size
           have lt_RH_g75 := lt_of_row RH
           have lt_R3_g75 := lt_of_row R3
           have RF := hp1_0 q67 (.cells #[.int .i64 0, .int .i64 0, .int .i64 0] 35)
           replace RH := keep hb_ RH
           replace R3 := keep hb_ R3
           replace hH := hH.keep hb_
           replace hB := hB.keep hb_
           replace hPs := hPs.keep hb_
           replace hC := rdc_keepH hC hb_
           replace hw := Below.after hw hb_
           clear hb_
           refine hK_ _ _ (RH) ?_
           simp only [Act.put, List.getElem_toArray, List.getElem_cons_succ, List.getElem_cons_zero, List.setIfInBounds_toArray, List.set_cons_succ, List.set_cons_zero]
           clear hK_
           generalize q67.alloc (.cells #[.int .i64 0, .int .i64 0, .int .i64 0] 35) = q74 at *
           generalize q67.heap.size = g75 at *
           refine wpAnyH_one (k := 18) (fuel := 5) (by kernel_rfl) rfl (by kernel_rfl) (fun K_ hK_ => ?_)
           have cE := r_EncodeF esl2_flat (by decide) none 0 (.slice (some ⟨gp, 0, none⟩) 4 4) (exs 2 (w.heap.size) ha 60 hc ba bn bc) [[], nonce, hd, bd] rfl (esl_chk 2 _ _ _ _ _ _ h80 hmo) q74 hC (exs_prt (by decide) (by decide) (by have := hB.bn; omega) hPs) (exs_bys (by decide) hn RH hH hB b1 b2)
           rw [exs_fdk] at cE
           have cE2 := cE.mono (fun e w' h => (by obtain ⟨u, e1, e2, e3⟩ := h; exact ⟨_, e1, u, rfl, e2, e3⟩ : ∃ v, e = .returned v ∧ ∃ u, v = .tuple #[u, .agg #[.int .i64 0, .int .i64 0, .int .i64 0]] ∧ Own w' q74.heap.size u (eout (efs 2 nonce hd bd)) ∧ Below q74.heap.size q74 w'))
           refine wp_call_ex (R := fun v w' => ∃ u, v = .tuple #[u, .agg #[.int .i64 0, .int .i64 0, .int .i64 0]] ∧ Own w' q74.heap.size u (eout (efs 2 nonce hd bd)) ∧ Below q74.heap.size q74 w') (by kernel_rfl) cE2 (fun v_ q76 hX_ => ?_)
           obtain ⟨u, rfl, hU, hb_⟩ := hX_
           have hU2 := own_down hU hw.size
           have hne3 : ∀ k, u.ownBlock = some k → k ≠ w.heap.size + 1 := fun k e => by have := own_low hU k e; have := lt_of_row R3; omega
           have hne : ∀ k, u.ownBlock = some k → k ≠ g75 := fun k e => by have := own_low hU k e; have := lt_of_row RF; omega
           clear cE cE2 hC hPs
           replace RH := keep hb_ RH
           replace R3 := keep hb_ R3
           replace RF := keep hb_ RF
           replace hw := Below.after hw hb_
           clear hb_ hU hH hB
           obtain ⟨L, hL⟩ : ∃ L, (eout (efs 2 nonce hd bd)) = L := ⟨_, rfl⟩
           rw [hL] at hU2
           replace hL := hide hL
           obtain ⟨ua, uc, rfl⟩ := slen_own hU2
           refine hK_ _ _ (RH) ?_
           simp only [Act.put, List.getElem_toArray, List.getElem_cons_succ, List.getElem_cons_zero, List.setIfInBounds_toArray, List.set_cons_succ, List.set_cons_zero]
           clear hK_
           refine wpAnyH_take (i := 19) (v := ?v195) rfl (by kernel_rfl) (by kernel_rfl) (by kernel_rfl) (fun _ _ _ h => h) (Or.inl ⟨by rfl, ?y195⟩) (RH) ?r195
           case y195 =>
             intro w_ hS_
             go_simp
             try with_reducible rfl
           simp only [Act.put, List.getElem_toArray, List.getElem_cons_succ, List.getElem_cons_zero, List.setIfInBounds_toArray, List.set_cons_succ, List.set_cons_zero]
           refine wpAnyH_take (i := 20) (v := ?v196) rfl (by kernel_rfl) (by kernel_rfl) (by kernel_rfl) (fun _ _ _ h => h) (Or.inl ⟨by rfl, ?y196⟩) (RH) ?r196
           case y196 =>
             intro w_ hS_
             go_simp
             try with_reducible rfl
           simp only [Act.put, List.getElem_toArray, List.getElem_cons_succ, List.getElem_cons_zero, List.setIfInBounds_toArray, List.set_cons_succ, List.set_cons_zero]
           refine wpAnyH_take (i := 21) (v := ?v197) rfl (by kernel_rfl) (by kernel_rfl) (by kernel_rfl) (fun _ _ _ h => h) (Or.inl ⟨by rfl, ?y197⟩) (RH) ?r197
           case y197 =>
             intro w_ hS_
             go_simp
             try with_reducible rfl
           simp only [Act.put, List.getElem_toArray, List.getElem_cons_succ, List.getElem_cons_zero, List.setIfInBounds_toArray, List.set_cons_succ, List.set_cons_zero]
           refine wpAnyH_take (i := 23) (v := ?v198) rfl (by kernel_rfl) (by kernel_rfl) (by kernel_rfl) (fun _ _ _ h => h) (Or.inl ⟨by rfl, ?y198⟩) (RH) ?r198
           case y198 =>
             intro w_ hS_
             go_simp
             try with_reducible rfl
           simp only [Act.put, List.getElem_toArray, List.getElem_cons_succ, List.getElem_cons_zero, List.setIfInBounds_toArray, List.set_cons_succ, List.set_cons_zero]
           refine wpAnyH_one (k := 24) (fuel := 0) (by kernel_rfl) rfl (by kernel_rfl) (fun K_ hK_ => ?_)
           refine wp_store_row 35 _ _ rfl (g75) #[.int .i64 0, .int .i64 0, .int .i64 0] rfl rfl 35 _ RF infoFt rfl hone ?_
           have l3_ := lt_of_row R3
           replace RH := (setRow_other q76 (g75) (w.heap.size) #[.int .i64 0, .int .i64 0, .int .i64 0] (by omega)).trans RH
           replace R3 := (setRow_other q76 (g75) (w.heap.size + 1) #[.int .i64 0, .int .i64 0, .int .i64 0] (by omega)).trans R3
           replace hU2 : Own (q76.setRow g75 #[.int .i64 0, .int .i64 0, .int .i64 0]) w.heap.size (.slice ua L.length uc) L := own_but hU2 fun q hq => setRow_other q76 (g75) q _ (by have := hne q hq; omega)
           replace hw := below_setRow hw (show w.heap.size ≤ g75 by omega) #[.int .i64 0, .int .i64 0, .int .i64 0]
           refine hK_ _ _ (RH) ?_
           simp only [Act.put, List.getElem_toArray, List.getElem_cons_succ, List.getElem_cons_zero]
           clear hK_
           generalize q76.setRow g75 #[.int .i64 0, .int .i64 0, .int .i64 0] = q77 at *
           refine wpAnyH_done (by kernel_rfl) ?_ _
           refine NoPanic.normal ?_
           have RX := hide (setRow_heap q77 (w.heap.size + 1) _ #[.int .i64 0, .int .i64 0, .int .i64 0] _ _ R3)
           have A1 : Hid (Own (q77.setRow (w.heap.size + 1) #[.int .i64 0, .int .i64 0, .int .i64 0]) w.heap.size (.slice ua L.length uc) L) := hide (own_but hU2 fun q hq => setRow_other q77 (w.heap.size + 1) q _ (by have := hne3 q hq; omega))
           have A2 := hide (below_setRow hw (show w.heap.size ≤ w.heap.size + 1 by omega) #[.int .i64 0, .int .i64 0, .int .i64 0])
           clear hU2 hw RH RF hne hne3
           go_wp2_with (first | (refine wpList_build_want rfl 35 _ rfl [] rfl #[.int .i64 0, .int .i64 0, .int .i64 0] builtZeR ?_) | (refine wpList_store_row rfl 35 _ _ rfl (w.heap.size + 1) #[.int .i64 0, .int .i64 0, .int .i64 0] rfl rfl 35 _ R3 infoFt rfl hone ?_) | fail)
           refine bodyPost_ret (results_slot_cell Tryz.results19 _ _ (w.heap.size + 1) _ _ _ _ rfl RX.out Tryz.underlying35 rfl infoFt) rfl ⟨⟨.slice ua L.length uc, ?_, ?_⟩, A2.out⟩
           · rw [hpk.out]; rfl
           · rw [hpk.out]
             show Own _ _ _ (eout (efs 2 nonce hd bd))
             rw [hL.out]
             exact A1.out
       · refine wp_world_op (.pointer (some ⟨q66.heap.size, 0, none⟩)) (q66.alloc (.cells #[.int .i64 0, .int .i64 0, .int .i64 0] 35)) (by kernel_rfl) ?_
         have hb_ : Below q66.heap.size q66 (q66.alloc (.cells #[.int .i64 0, .int .i64 0, .int .i64 0] 35)) := (Below.refl _ _).alloc (Nat.le_refl _) _
         have sz_g80 : w.heap.size ≤ q66.heap.size := hw.size
         have lt_RH_g80 := lt_of_row RH
         have lt_R3_g80 := lt_of_row R3
         have RF := hp1_0 q66 (.cells #[.int .i64 0, .int .i64 0, .int .i64 0] 35)
         replace RH := keep hb_ RH
         replace R3 := keep hb_ R3
         replace hH := hH.keep hb_
         replace hB := hB.keep hb_
         replace hPs := hPs.keep hb_
         replace hw := Below.after hw hb_
         clear hb_
         refine hK_ _ _ (RH) ?_
         simp only [Act.put, List.getElem_toArray, List.getElem_cons_succ, List.getElem_cons_zero, List.setIfInBounds_toArray, List.set_cons_succ, List.set_cons_zero]
         clear hK_
         generalize q66.alloc (.cells #[.int .i64 0, .int .i64 0, .int .i64 0] 35) = q79 at *
         generalize q66.heap.size = g80 at *
         refine wpAnyH_one (k := 2) (fuel := 6) (by kernel_rfl) rfl (by kernel_rfl) (fun K_ hK_ => ?_)
         have cH := (r_shapeE2 q79).mono (fun e w' h => (by obtain ⟨x, h1, ⟨q, h2, _, h3⟩, h4⟩ := h; exact ⟨_, h1, q, h2, h3, h4⟩ : ∃ v, e = .returned v ∧ ∃ q, v = .pointer (some ⟨q, 0, none⟩) ∧ Rdc w' q (esl 2) ∧ Below q79.heap.size q79 w'))
         refine wp_call_ex (R := fun v w' => ∃ q, v = .pointer (some ⟨q, 0, none⟩) ∧ Rdc w' q (esl 2) ∧ Below q79.heap.size q79 w') (by kernel_rfl) cH (fun v_ q81 hX_ => ?_)
         obtain ⟨q, rfl, hC, hb_⟩ := hX_
         replace RH := keep hb_ RH
         replace R3 := keep hb_ R3
         replace RF := keep hb_ RF
         replace hH := hH.keep hb_
         replace hB := hB.keep hb_
         replace hPs := hPs.keep hb_
         replace hw := Below.after hw hb_
         clear hb_ cH
         refine hK_ _ _ (RH) ?_
         simp only [Act.put, List.getElem_toArray, List.getElem_cons_succ, List.getElem_cons_zero, List.setIfInBounds_toArray, List.set_cons_succ, List.set_cons_zero]
         clear hK_
         refine wpAnyH_one (k := 18) (fuel := 5) (by kernel_rfl) rfl (by kernel_rfl) (fun K_ hK_ => ?_)
         have cE := r_EncodeF esl2_flat (by decide) none 0 (.slice (some ⟨gp, 0, none⟩) 4 4) (exs 2 (w.heap.size) ha 60 hc ba bn bc) [[], nonce, hd, bd] rfl (esl_chk 2 _ _ _ _ _ _ h80 hmo) q81 hC (exs_prt (by decide) (by decide) (by have := hB.bn; omega) hPs) (exs_bys (by decide) hn RH hH hB b1 b2)
         rw [exs_fdk] at cE
         have cE2 := cE.mono (fun e w' h => (by obtain ⟨u, e1, e2, e3⟩ := h; exact ⟨_, e1, u, rfl, e2, e3⟩ : ∃ v, e = .returned v ∧ ∃ u, v = .tuple #[u, .agg #[.int .i64 0, .int .i64 0, .int .i64 0]] ∧ Own w' q81.heap.size u (eout (efs 2 nonce hd bd)) ∧ Below q81.heap.size q81 w'))
         refine wp_call_ex (R := fun v w' => ∃ u, v = .tuple #[u, .agg #[.int .i64 0, .int .i64 0, .int .i64 0]] ∧ Own w' q81.heap.size u (eout (efs 2 nonce hd bd)) ∧ Below q81.heap.size q81 w') (by kernel_rfl) cE2 (fun v_ q82 hX_ => ?_)
         obtain ⟨u, rfl, hU, hb_⟩ := hX_
         have hU2 := own_down hU hw.size
         have hne3 : ∀ k, u.ownBlock = some k → k ≠ w.heap.size + 1 := fun k e => by have := own_low hU k e; have := lt_of_row R3; omega
         have hne : ∀ k, u.ownBlock = some k → k ≠ g80 := fun k e => by have := own_low hU k e; have := lt_of_row RF; omega
         clear cE cE2 hC hPs
         replace RH := keep hb_ RH
         replace R3 := keep hb_ R3
         replace RF := keep hb_ RF
         replace hw := Below.after hw hb_
         clear hb_ hU hH hB
         obtain ⟨L, hL⟩ : ∃ L, (eout (efs 2 nonce hd bd)) = L := ⟨_, rfl⟩
         rw [hL] at hU2
         replace hL := hide hL
         obtain ⟨ua, uc, rfl⟩ := slen_own hU2
         refine hK_ _ _ (RH) ?_
         simp only [Act.put, List.getElem_toArray, List.getElem_cons_succ, List.getElem_cons_zero, List.setIfInBounds_toArray, List.set_cons_succ, List.set_cons_zero]
         clear hK_
         refine wpAnyH_take (i := 19) (v := ?v199) rfl (by kernel_rfl) (by kernel_rfl) (by kernel_rfl) (fun _ _ _ h => h) (Or.inl ⟨by rfl, ?y199⟩) (RH) ?r199
         case y199 =>
           intro w_ hS_
           go_simp
           try with_reducible rfl
         simp only [Act.put, List.getElem_toArray, List.getElem_cons_succ, List.getElem_cons_zero, List.setIfInBounds_toArray, List.set_cons_succ, List.set_cons_zero]
         refine wpAnyH_take (i := 20) (v := ?v200) rfl (by kernel_rfl) (by kernel_rfl) (by kernel_rfl) (fun _ _ _ h => h) (Or.inl ⟨by rfl, ?y200⟩) (RH) ?r200
         case y200 =>
           intro w_ hS_
           go_simp
           try with_reducible rfl
         simp only [Act.put, List.getElem_toArray, List.getElem_cons_succ, List.getElem_cons_zero, List.setIfInBounds_toArray, List.set_cons_succ, List.set_cons_zero]
         refine wpAnyH_take (i := 21) (v := ?v201) rfl (by kernel_rfl) (by kernel_rfl) (by kernel_rfl) (fun _ _ _ h => h) (Or.inl ⟨by rfl, ?y201⟩) (RH) ?r201
         case y201 =>
           intro w_ hS_
           go_simp
           try with_reducible rfl
         simp only [Act.put, List.getElem_toArray, List.getElem_cons_succ, List.getElem_cons_zero, List.setIfInBounds_toArray, List.set_cons_succ, List.set_cons_zero]
         refine wpAnyH_take (i := 23) (v := ?v202) rfl (by kernel_rfl) (by kernel_rfl) (by kernel_rfl) (fun _ _ _ h => h) (Or.inl ⟨by rfl, ?y202⟩) (RH) ?r202
         case y202 =>
           intro w_ hS_
           go_simp
           try with_reducible rfl
         simp only [Act.put, List.getElem_toArray, List.getElem_cons_succ, List.getElem_cons_zero, List.setIfInBounds_toArray, List.set_cons_succ, List.set_cons_zero]
         refine wpAnyH_one (k := 24) (fuel := 0) (by kernel_rfl) rfl (by kernel_rfl) (fun K_ hK_ => ?_)
         refine wp_store_row 35 _ _ rfl (g80) #[.int .i64 0, .int .i64 0, .int .i64 0] rfl rfl 35 _ RF infoFt rfl hone ?_
         have l3_ := lt_of_row R3
         replace RH := (setRow_other q82 (g80) (w.heap.size) #[.int .i64 0, .int .i64 0, .int .i64 0] (by omega)).trans RH
         replace R3 := (setRow_other q82 (g80) (w.heap.size + 1) #[.int .i64 0, .int .i64 0, .int .i64 0] (by omega)).trans R3
         replace hU2 : Own (q82.setRow g80 #[.int .i64 0, .int .i64 0, .int .i64 0]) w.heap.size (.slice ua L.length uc) L := own_but hU2 fun q hq => setRow_other q82 (g80) q _ (by have := hne q hq; omega)
         replace hw := below_setRow hw (show w.heap.size ≤ g80 by omega) #[.int .i64 0, .int .i64 0, .int .i64 0]
         refine hK_ _ _ (RH) ?_
         simp only [Act.put, List.getElem_toArray, List.getElem_cons_succ, List.getElem_cons_zero]
         clear hK_
         generalize q82.setRow g80 #[.int .i64 0, .int .i64 0, .int .i64 0] = q83 at *
         refine wpAnyH_done (by kernel_rfl) ?_ _
         refine NoPanic.normal ?_
         have RX := hide (setRow_heap q83 (w.heap.size + 1) _ #[.int .i64 0, .int .i64 0, .int .i64 0] _ _ R3)
         have A1 : Hid (Own (q83.setRow (w.heap.size + 1) #[.int .i64 0, .int .i64 0, .int .i64 0]) w.heap.size (.slice ua L.length uc) L) := hide (own_but hU2 fun q hq => setRow_other q83 (w.heap.size + 1) q _ (by have := hne3 q hq; omega))
         have A2 := hide (below_setRow hw (show w.heap.size ≤ w.heap.size + 1 by omega) #[.int .i64 0, .int .i64 0, .int .i64 0])
         clear hU2 hw RH RF hne hne3
         go_wp2_with (first | (refine wpList_build_want rfl 35 _ rfl [] rfl #[.int .i64 0, .int .i64 0, .int .i64 0] builtZeR ?_) | (refine wpList_store_row rfl 35 _ _ rfl (w.heap.size + 1) #[.int .i64 0, .int .i64 0, .int .i64 0] rfl rfl 35 _ R3 infoFt rfl hone ?_) | fail)
         refine bodyPost_ret (results_slot_cell Tryz.results19 _ _ (w.heap.size + 1) _ _ _ _ rfl RX.out Tryz.underlying35 rfl infoFt) rfl ⟨⟨.slice ua L.length uc, ?_, ?_⟩, A2.out⟩
         · rw [hpk.out]; rfl
         · rw [hpk.out]
           show Own _ _ _ (eout (efs 2 nonce hd bd))
           rw [hL.out]
           exact A1.out
     · refine wp_world_op (.pointer (some ⟨w1.heap.size, 0, none⟩)) (w1.alloc (.cells #[.int .i64 0, .int .i64 0, .int .i64 0] 35)) (by kernel_rfl) ?_
       have hb_ : Below w1.heap.size w1 (w1.alloc (.cells #[.int .i64 0, .int .i64 0, .int .i64 0] 35)) := (Below.refl _ _).alloc (Nat.le_refl _) _
       have sz_g86 : w.heap.size ≤ w1.heap.size := hw.size
       have lt_RH_g86 := lt_of_row RH
       have lt_R3_g86 := lt_of_row R3
       have RF := hp1_0 w1 (.cells #[.int .i64 0, .int .i64 0, .int .i64 0] 35)
       replace RH := keep hb_ RH
       replace R3 := keep hb_ R3
       replace hH := hH.keep hb_
       replace hB := hB.keep hb_
       replace hw := Below.after hw hb_
       clear hb_
       refine hK_ _ _ (RH) ?_
       simp only [Act.put, List.getElem_toArray, List.getElem_cons_succ, List.getElem_cons_zero, List.setIfInBounds_toArray, List.set_cons_succ, List.set_cons_zero]
       clear hK_
       generalize w1.alloc (.cells #[.int .i64 0, .int .i64 0, .int .i64 0] 35) = q85 at *
       generalize w1.heap.size = g86 at *
       refine wpAnyH_two (j := 2) (k := 16) (fuel := 8) (by kernel_rfl) rfl rfl (by kernel_rfl) (by kernel_rfl) (fun K_ hK_ => ?_) (fun K_ hK_ => ?_)
       · have cH := (r_shapeE2 q85).mono (fun e w' h => (by obtain ⟨x, h1, ⟨q, h2, _, h3⟩, h4⟩ := h; exact ⟨_, h1, q, h2, h3, h4⟩ : ∃ v, e = .returned v ∧ ∃ q, v = .pointer (some ⟨q, 0, none⟩) ∧ Rdc w' q (esl 2) ∧ Below q85.heap.size q85 w'))
         refine wp_call_ex (R := fun v w' => ∃ q, v = .pointer (some ⟨q, 0, none⟩) ∧ Rdc w' q (esl 2) ∧ Below q85.heap.size q85 w') (by kernel_rfl) cH (fun v_ q87 hX_ => ?_)
         obtain ⟨q, rfl, hC, hb_⟩ := hX_
         replace RH := keep hb_ RH
         replace R3 := keep hb_ R3
         replace RF := keep hb_ RF
         replace hH := hH.keep hb_
         replace hB := hB.keep hb_
         replace hw := Below.after hw hb_
         clear hb_ cH
         refine hK_ _ _ (RH) ?_
         simp only [Act.put, List.getElem_toArray, List.getElem_cons_succ, List.getElem_cons_zero, List.setIfInBounds_toArray, List.set_cons_succ, List.set_cons_zero]
         clear hK_
         refine wpAnyH_one (k := 16) (fuel := 7) (by kernel_rfl) rfl (by kernel_rfl) (fun K_ hK_ => ?_)
         refine wp_val_op (.slice (some ⟨q87.heap.size, 0, none⟩) 4 4) (w' := q87.alloc (.cells #[.int .u64 2, .slice none 0 0, .slice none 0 0, .int .u64 0, .slice (some ⟨w.heap.size, 1, none⟩) 16 16, .slice none 0 0, .int .u64 0, .slice ha 60 hc, .slice none 0 0, .int .u64 0, .slice ba bn bc, .slice none 0 0] 76)) (by kernel_rfl) ?_
         have hPs : Bx (q87.alloc (.cells #[.int .u64 2, .slice none 0 0, .slice none 0 0, .int .u64 0, .slice (some ⟨w.heap.size, 1, none⟩) 16 16, .slice none 0 0, .int .u64 0, .slice ha 60 hc, .slice none 0 0, .int .u64 0, .slice ba bn bc, .slice none 0 0] 76)) q87.heap.size #[.int .u64 2, .slice none 0 0, .slice none 0 0, .int .u64 0, .slice (some ⟨w.heap.size, 1, none⟩) 16 16, .slice none 0 0, .int .u64 0, .slice ha 60 hc, .slice none 0 0, .int .u64 0, .slice ba bn bc, .slice none 0 0] := ⟨_, hp1_0 q87 _⟩
         have hb_ : Below q87.heap.size q87 (q87.alloc (.cells #[.int .u64 2, .slice none 0 0, .slice none 0 0, .int .u64 0, .slice (some ⟨w.heap.size, 1, none⟩) 16 16, .slice none 0 0, .int .u64 0, .slice ha 60 hc, .slice none 0 0, .int .u64 0, .slice ba bn bc, .slice none 0 0] 76)) := (Below.refl _ _).alloc (Nat.le_refl _) _
         replace RH := keep hb_ RH
         replace R3 := keep hb_ R3
         replace RF := keep hb_ RF
         replace hH := hH.keep hb_
         replace hB := hB.keep hb_
         replace hC := rdc_keepH hC hb_
         replace hw := Below.after hw hb_
         clear hb_
         refine hK_ _ _ (RH) ?_
         simp only [Act.put, List.getElem_toArray, List.getElem_cons_succ, List.getElem_cons_zero, List.setIfInBounds_toArray, List.set_cons_succ, List.set_cons_zero]
         clear hK_
         generalize q87.alloc (.cells #[.int .u64 2, .slice none 0 0, .slice none 0 0, .int .u64 0, .slice (some ⟨w.heap.size, 1, none⟩) 16 16, .slice none 0 0, .int .u64 0, .slice ha 60 hc, .slice none 0 0, .int .u64 0, .slice ba bn bc, .slice none 0 0] 76) = q88 at *
         generalize q87.heap.size = gp at *
         refine wpAnyH_take (i := 17) (v := .agg #[.int .u64 0, .slice none 0 0, .slice (some ⟨gp, 0, none⟩) 4 4]) rfl (by kernel_rfl) (by kernel_rfl) (by kernel_rfl) (fun _ _ _ h => h) (Or.inl ⟨by rfl, ?y203⟩) (RH) ?r203
         case y203 =>
           intro w_ hS_
           go_simp
           try with_reducible rfl
         simp only [Act.put, List.getElem_toArray, List.getElem_cons_succ, List.getElem_cons_zero, List.setIfInBounds_toArray, List.set_cons_succ, List.set_cons_zero]
         refine wpAnyH_one (k := 18) (fuel := 5) (by kernel_rfl) rfl (by kernel_rfl) (fun K_ hK_ => ?_)
         have cE := r_EncodeF esl2_flat (by decide) none 0 (.slice (some ⟨gp, 0, none⟩) 4 4) (exs 2 (w.heap.size) ha 60 hc ba bn bc) [[], nonce, hd, bd] rfl (esl_chk 2 _ _ _ _ _ _ h80 hmo) q88 hC (exs_prt (by decide) (by decide) (by have := hB.bn; omega) hPs) (exs_bys (by decide) hn RH hH hB b1 b2)
         rw [exs_fdk] at cE
         have cE2 := cE.mono (fun e w' h => (by obtain ⟨u, e1, e2, e3⟩ := h; exact ⟨_, e1, u, rfl, e2, e3⟩ : ∃ v, e = .returned v ∧ ∃ u, v = .tuple #[u, .agg #[.int .i64 0, .int .i64 0, .int .i64 0]] ∧ Own w' q88.heap.size u (eout (efs 2 nonce hd bd)) ∧ Below q88.heap.size q88 w'))
         refine wp_call_ex (R := fun v w' => ∃ u, v = .tuple #[u, .agg #[.int .i64 0, .int .i64 0, .int .i64 0]] ∧ Own w' q88.heap.size u (eout (efs 2 nonce hd bd)) ∧ Below q88.heap.size q88 w') (by kernel_rfl) cE2 (fun v_ q89 hX_ => ?_)
         obtain ⟨u, rfl, hU, hb_⟩ := hX_
         have hU2 := own_down hU hw.size
         have hne3 : ∀ k, u.ownBlock = some k → k ≠ w.heap.size + 1 := fun k e => by have := own_low hU k e; have := lt_of_row R3; omega
         have hne : ∀ k, u.ownBlock = some k → k ≠ g86 := fun k e => by have := own_low hU k e; have := lt_of_row RF; omega
         clear cE cE2 hC hPs
         replace RH := keep hb_ RH
         replace R3 := keep hb_ R3
         replace RF := keep hb_ RF
         replace hw := Below.after hw hb_
         clear hb_ hU hH hB
         obtain ⟨L, hL⟩ : ∃ L, (eout (efs 2 nonce hd bd)) = L := ⟨_, rfl⟩
         rw [hL] at hU2
         replace hL := hide hL
         obtain ⟨ua, uc, rfl⟩ := slen_own hU2
         refine hK_ _ _ (RH) ?_
         simp only [Act.put, List.getElem_toArray, List.getElem_cons_succ, List.getElem_cons_zero, List.setIfInBounds_toArray, List.set_cons_succ, List.set_cons_zero]
         clear hK_
         refine wpAnyH_take (i := 19) (v := ?v204) rfl (by kernel_rfl) (by kernel_rfl) (by kernel_rfl) (fun _ _ _ h => h) (Or.inl ⟨by rfl, ?y204⟩) (RH) ?r204
         case y204 =>
           intro w_ hS_
           go_simp
           try with_reducible rfl
         simp only [Act.put, List.getElem_toArray, List.getElem_cons_succ, List.getElem_cons_zero, List.setIfInBounds_toArray, List.set_cons_succ, List.set_cons_zero]
         refine wpAnyH_take (i := 20) (v := ?v205) rfl (by kernel_rfl) (by kernel_rfl) (by kernel_rfl) (fun _ _ _ h => h) (Or.inl ⟨by rfl, ?y205⟩) (RH) ?r205
         case y205 =>
           intro w_ hS_
           go_simp
           try with_reducible rfl
         simp only [Act.put, List.getElem_toArray, List.getElem_cons_succ, List.getElem_cons_zero, List.setIfInBounds_toArray, List.set_cons_succ, List.set_cons_zero]
         refine wpAnyH_take (i := 21) (v := ?v206) rfl (by kernel_rfl) (by kernel_rfl) (by kernel_rfl) (fun _ _ _ h => h) (Or.inl ⟨by rfl, ?y206⟩) (RH) ?r206
         case y206 =>
           intro w_ hS_
           go_simp
           try with_reducible rfl
         simp only [Act.put, List.getElem_toArray, List.getElem_cons_succ, List.getElem_cons_zero, List.setIfInBounds_toArray, List.set_cons_succ, List.set_cons_zero]
         refine wpAnyH_take (i := 23) (v := ?v207) rfl (by kernel_rfl) (by kernel_rfl) (by kernel_rfl) (fun _ _ _ h => h) (Or.inl ⟨by rfl, ?y207⟩) (RH) ?r207
         case y207 =>
           intro w_ hS_
           go_simp
           try with_reducible rfl
         simp only [Act.put, List.getElem_toArray, List.getElem_cons_succ, List.getElem_cons_zero, List.setIfInBounds_toArray, List.set_cons_succ, List.set_cons_zero]
         refine wpAnyH_one (k := 24) (fuel := 0) (by kernel_rfl) rfl (by kernel_rfl) (fun K_ hK_ => ?_)
         refine wp_store_row 35 _ _ rfl (g86) #[.int .i64 0, .int .i64 0, .int .i64 0] rfl rfl 35 _ RF infoFt rfl hone ?_
         have l3_ := lt_of_row R3
         replace RH := (setRow_other q89 (g86) (w.heap.size) #[.int .i64 0, .int .i64 0, .int .i64 0] (by omega)).trans RH
         replace R3 := (setRow_other q89 (g86) (w.heap.size + 1) #[.int .i64 0, .int .i64 0, .int .i64 0] (by omega)).trans R3
         replace hU2 : Own (q89.setRow g86 #[.int .i64 0, .int .i64 0, .int .i64 0]) w.heap.size (.slice ua L.length uc) L := own_but hU2 fun q hq => setRow_other q89 (g86) q _ (by have := hne q hq; omega)
         replace hw := below_setRow hw (show w.heap.size ≤ g86 by omega) #[.int .i64 0, .int .i64 0, .int .i64 0]
         refine hK_ _ _ (RH) ?_
         simp only [Act.put, List.getElem_toArray, List.getElem_cons_succ, List.getElem_cons_zero]
         clear hK_
         generalize q89.setRow g86 #[.int .i64 0, .int .i64 0, .int .i64 0] = q90 at *
         refine wpAnyH_done (by kernel_rfl) ?_ _
         refine NoPanic.normal ?_
         have RX := hide (setRow_heap q90 (w.heap.size + 1) _ #[.int .i64 0, .int .i64 0, .int .i64 0] _ _ R3)
         have A1 : Hid (Own (q90.setRow (w.heap.size + 1) #[.int .i64 0, .int .i64 0, .int .i64 0]) w.heap.size (.slice ua L.length uc) L) := hide (own_but hU2 fun q hq => setRow_other q90 (w.heap.size + 1) q _ (by have := hne3 q hq; omega))
         have A2 := hide (below_setRow hw (show w.heap.size ≤ w.heap.size + 1 by omega) #[.int .i64 0, .int .i64 0, .int .i64 0])
         clear hU2 hw RH RF hne hne3
         go_wp2_with (first | (refine wpList_build_want rfl 35 _ rfl [] rfl #[.int .i64 0, .int .i64 0, .int .i64 0] builtZeR ?_) | (refine wpList_store_row rfl 35 _ _ rfl (w.heap.size + 1) #[.int .i64 0, .int .i64 0, .int .i64 0] rfl rfl 35 _ R3 infoFt rfl hone ?_) | fail)
         refine bodyPost_ret (results_slot_cell Tryz.results19 _ _ (w.heap.size + 1) _ _ _ _ rfl RX.out Tryz.underlying35 rfl infoFt) rfl ⟨⟨.slice ua L.length uc, ?_, ?_⟩, A2.out⟩
         · rw [hpk.out]; rfl
         · rw [hpk.out]
           show Own _ _ _ (eout (efs 2 nonce hd bd))
           rw [hL.out]
           exact A1.out
       · refine wp_val_op (.slice (some ⟨q85.heap.size, 0, none⟩) 4 4) (w' := q85.alloc (.cells #[.int .u64 2, .slice none 0 0, .slice none 0 0, .int .u64 0, .slice (some ⟨w.heap.size, 1, none⟩) 16 16, .slice none 0 0, .int .u64 0, .slice ha 60 hc, .slice none 0 0, .int .u64 0, .slice ba bn bc, .slice none 0 0] 76)) (by kernel_rfl) ?_
         have hPs : Bx (q85.alloc (.cells #[.int .u64 2, .slice none 0 0, .slice none 0 0, .int .u64 0, .slice (some ⟨w.heap.size, 1, none⟩) 16 16, .slice none 0 0, .int .u64 0, .slice ha 60 hc, .slice none 0 0, .int .u64 0, .slice ba bn bc, .slice none 0 0] 76)) q85.heap.size #[.int .u64 2, .slice none 0 0, .slice none 0 0, .int .u64 0, .slice (some ⟨w.heap.size, 1, none⟩) 16 16, .slice none 0 0, .int .u64 0, .slice ha 60 hc, .slice none 0 0, .int .u64 0, .slice ba bn bc, .slice none 0 0] := ⟨_, hp1_0 q85 _⟩
         have hb_ : Below q85.heap.size q85 (q85.alloc (.cells #[.int .u64 2, .slice none 0 0, .slice none 0 0, .int .u64 0, .slice (some ⟨w.heap.size, 1, none⟩) 16 16, .slice none 0 0, .int .u64 0, .slice ha 60 hc, .slice none 0 0, .int .u64 0, .slice ba bn bc, .slice none 0 0] 76)) := (Below.refl _ _).alloc (Nat.le_refl _) _
         replace RH := keep hb_ RH
         replace R3 := keep hb_ R3
         replace RF := keep hb_ RF
         replace hH := hH.keep hb_
         replace hB := hB.keep hb_
         replace hw := Below.after hw hb_
         clear hb_
         refine hK_ _ _ (RH) ?_
         simp only [Act.put, List.getElem_toArray, List.getElem_cons_succ, List.getElem_cons_zero, List.setIfInBounds_toArray, List.set_cons_succ, List.set_cons_zero]
         clear hK_
         generalize q85.alloc (.cells #[.int .u64 2, .slice none 0 0, .slice none 0 0, .int .u64 0, .slice (some ⟨w.heap.size, 1, none⟩) 16 16, .slice none 0 0, .int .u64 0, .slice ha 60 hc, .slice none 0 0, .int .u64 0, .slice ba bn bc, .slice none 0 0] 76) = q91 at *
         generalize q85.heap.size = gp at *
         refine wpAnyH_take (i := 17) (v := .agg #[.int .u64 0, .slice none 0 0, .slice (some ⟨gp, 0, none⟩) 4 4]) rfl (by kernel_rfl) (by kernel_rfl) (by kernel_rfl) (fun _ _ _ h => h) (Or.inl ⟨by rfl, ?y208⟩) (RH) ?r208
         case y208 =>
           intro w_ hS_
           go_simp
           try with_reducible rfl
         simp only [Act.put, List.getElem_toArray, List.getElem_cons_succ, List.getElem_cons_zero, List.setIfInBounds_toArray, List.set_cons_succ, List.set_cons_zero]
         refine wpAnyH_one (k := 2) (fuel := 6) (by kernel_rfl) rfl (by kernel_rfl) (fun K_ hK_ => ?_)
         have cH := (r_shapeE2 q91).mono (fun e w' h => (by obtain ⟨x, h1, ⟨q, h2, _, h3⟩, h4⟩ := h; exact ⟨_, h1, q, h2, h3, h4⟩ : ∃ v, e = .returned v ∧ ∃ q, v = .pointer (some ⟨q, 0, none⟩) ∧ Rdc w' q (esl 2) ∧ Below q91.heap.size q91 w'))
         refine wp_call_ex (R := fun v w' => ∃ q, v = .pointer (some ⟨q, 0, none⟩) ∧ Rdc w' q (esl 2) ∧ Below q91.heap.size q91 w') (by kernel_rfl) cH (fun v_ q92 hX_ => ?_)
         obtain ⟨q, rfl, hC, hb_⟩ := hX_
         replace RH := keep hb_ RH
         replace R3 := keep hb_ R3
         replace RF := keep hb_ RF
         replace hH := hH.keep hb_
         replace hB := hB.keep hb_
         replace hPs := hPs.keep hb_
         replace hw := Below.after hw hb_
         clear hb_ cH
         refine hK_ _ _ (RH) ?_
         simp only [Act.put, List.getElem_toArray, List.getElem_cons_succ, List.getElem_cons_zero, List.setIfInBounds_toArray, List.set_cons_succ, List.set_cons_zero]
         clear hK_
         refine wpAnyH_one (k := 18) (fuel := 5) (by kernel_rfl) rfl (by kernel_rfl) (fun K_ hK_ => ?_)
         have cE := r_EncodeF esl2_flat (by decide) none 0 (.slice (some ⟨gp, 0, none⟩) 4 4) (exs 2 (w.heap.size) ha 60 hc ba bn bc) [[], nonce, hd, bd] rfl (esl_chk 2 _ _ _ _ _ _ h80 hmo) q92 hC (exs_prt (by decide) (by decide) (by have := hB.bn; omega) hPs) (exs_bys (by decide) hn RH hH hB b1 b2)
         rw [exs_fdk] at cE
         have cE2 := cE.mono (fun e w' h => (by obtain ⟨u, e1, e2, e3⟩ := h; exact ⟨_, e1, u, rfl, e2, e3⟩ : ∃ v, e = .returned v ∧ ∃ u, v = .tuple #[u, .agg #[.int .i64 0, .int .i64 0, .int .i64 0]] ∧ Own w' q92.heap.size u (eout (efs 2 nonce hd bd)) ∧ Below q92.heap.size q92 w'))
         refine wp_call_ex (R := fun v w' => ∃ u, v = .tuple #[u, .agg #[.int .i64 0, .int .i64 0, .int .i64 0]] ∧ Own w' q92.heap.size u (eout (efs 2 nonce hd bd)) ∧ Below q92.heap.size q92 w') (by kernel_rfl) cE2 (fun v_ q93 hX_ => ?_)
         obtain ⟨u, rfl, hU, hb_⟩ := hX_
         have hU2 := own_down hU hw.size
         have hne3 : ∀ k, u.ownBlock = some k → k ≠ w.heap.size + 1 := fun k e => by have := own_low hU k e; have := lt_of_row R3; omega
         have hne : ∀ k, u.ownBlock = some k → k ≠ g86 := fun k e => by have := own_low hU k e; have := lt_of_row RF; omega
         clear cE cE2 hC hPs
         replace RH := keep hb_ RH
         replace R3 := keep hb_ R3
         replace RF := keep hb_ RF
         replace hw := Below.after hw hb_
         clear hb_ hU hH hB
         obtain ⟨L, hL⟩ : ∃ L, (eout (efs 2 nonce hd bd)) = L := ⟨_, rfl⟩
         rw [hL] at hU2
         replace hL := hide hL
         obtain ⟨ua, uc, rfl⟩ := slen_own hU2
         refine hK_ _ _ (RH) ?_
         simp only [Act.put, List.getElem_toArray, List.getElem_cons_succ, List.getElem_cons_zero, List.setIfInBounds_toArray, List.set_cons_succ, List.set_cons_zero]
         clear hK_
         refine wpAnyH_take (i := 19) (v := ?v209) rfl (by kernel_rfl) (by kernel_rfl) (by kernel_rfl) (fun _ _ _ h => h) (Or.inl ⟨by rfl, ?y209⟩) (RH) ?r209
         case y209 =>
           intro w_ hS_
           go_simp
           try with_reducible rfl
         simp only [Act.put, List.getElem_toArray, List.getElem_cons_succ, List.getElem_cons_zero, List.setIfInBounds_toArray, List.set_cons_succ, List.set_cons_zero]
         refine wpAnyH_take (i := 20) (v := ?v210) rfl (by kernel_rfl) (by kernel_rfl) (by kernel_rfl) (fun _ _ _ h => h) (Or.inl ⟨by rfl, ?y210⟩) (RH) ?r210
         case y210 =>
           intro w_ hS_
           go_simp
           try with_reducible rfl
         simp only [Act.put, List.getElem_toArray, List.getElem_cons_succ, List.getElem_cons_zero, List.setIfInBounds_toArray, List.set_cons_succ, List.set_cons_zero]
         refine wpAnyH_take (i := 21) (v := ?v211) rfl (by kernel_rfl) (by kernel_rfl) (by kernel_rfl) (fun _ _ _ h => h) (Or.inl ⟨by rfl, ?y211⟩) (RH) ?r211
         case y211 =>
           intro w_ hS_
           go_simp
           try with_reducible rfl
         simp only [Act.put, List.getElem_toArray, List.getElem_cons_succ, List.getElem_cons_zero, List.setIfInBounds_toArray, List.set_cons_succ, List.set_cons_zero]
         refine wpAnyH_take (i := 23) (v := ?v212) rfl (by kernel_rfl) (by kernel_rfl) (by kernel_rfl) (fun _ _ _ h => h) (Or.inl ⟨by rfl, ?y212⟩) (RH) ?r212
         case y212 =>
           intro w_ hS_
           go_simp
           try with_reducible rfl
         simp only [Act.put, List.getElem_toArray, List.getElem_cons_succ, List.getElem_cons_zero, List.setIfInBounds_toArray, List.set_cons_succ, List.set_cons_zero]
         refine wpAnyH_one (k := 24) (fuel := 0) (by kernel_rfl) rfl (by kernel_rfl) (fun K_ hK_ => ?_)
         refine wp_store_row 35 _ _ rfl (g86) #[.int .i64 0, .int .i64 0, .int .i64 0] rfl rfl 35 _ RF infoFt rfl hone ?_
         have l3_ := lt_of_row R3
         replace RH := (setRow_other q93 (g86) (w.heap.size) #[.int .i64 0, .int .i64 0, .int .i64 0] (by omega)).trans RH
         replace R3 := (setRow_other q93 (g86) (w.heap.size + 1) #[.int .i64 0, .int .i64 0, .int .i64 0] (by omega)).trans R3
         replace hU2 : Own (q93.setRow g86 #[.int .i64 0, .int .i64 0, .int .i64 0]) w.heap.size (.slice ua L.length uc) L := own_but hU2 fun q hq => setRow_other q93 (g86) q _ (by have := hne q hq; omega)
         replace hw := below_setRow hw (show w.heap.size ≤ g86 by omega) #[.int .i64 0, .int .i64 0, .int .i64 0]
         refine hK_ _ _ (RH) ?_
         simp only [Act.put, List.getElem_toArray, List.getElem_cons_succ, List.getElem_cons_zero]
         clear hK_
         generalize q93.setRow g86 #[.int .i64 0, .int .i64 0, .int .i64 0] = q94 at *
         refine wpAnyH_done (by kernel_rfl) ?_ _
         refine NoPanic.normal ?_
         have RX := hide (setRow_heap q94 (w.heap.size + 1) _ #[.int .i64 0, .int .i64 0, .int .i64 0] _ _ R3)
         have A1 : Hid (Own (q94.setRow (w.heap.size + 1) #[.int .i64 0, .int .i64 0, .int .i64 0]) w.heap.size (.slice ua L.length uc) L) := hide (own_but hU2 fun q hq => setRow_other q94 (w.heap.size + 1) q _ (by have := hne3 q hq; omega))
         have A2 := hide (below_setRow hw (show w.heap.size ≤ w.heap.size + 1 by omega) #[.int .i64 0, .int .i64 0, .int .i64 0])
         clear hU2 hw RH RF hne hne3
         go_wp2_with (first | (refine wpList_build_want rfl 35 _ rfl [] rfl #[.int .i64 0, .int .i64 0, .int .i64 0] builtZeR ?_) | (refine wpList_store_row rfl 35 _ _ rfl (w.heap.size + 1) #[.int .i64 0, .int .i64 0, .int .i64 0] rfl rfl 35 _ R3 infoFt rfl hone ?_) | fail)
         refine bodyPost_ret (results_slot_cell Tryz.results19 _ _ (w.heap.size + 1) _ _ _ _ rfl RX.out Tryz.underlying35 rfl infoFt) rfl ⟨⟨.slice ua L.length uc, ?_, ?_⟩, A2.out⟩
         · rw [hpk.out]; rfl
         · rw [hpk.out]
           show Own _ _ _ (eout (efs 2 nonce hd bd))
           rw [hL.out]
           exact A1.out
   · rw [decide_eq_false h2] at cH
     have hpk : Hid (pk10 2 60 bn = some ⟨1, 4, 102⟩) := hide (by
       unfold pk10
       rw [if_neg (by simp)]
       split
       · rfl
       · rw [if_neg (fun h => h2 ⟨by omega, by omega, h⟩)])
     replace cH := hide cH
     clear h2
     go_wp2_with (fail)
     refine (cH.out w0).mono ?_
     rintro e_ x0 ⟨rfl, hb_⟩
     replace R3 := keep hb_ R3
     replace hw := Below.after hw hb_
     clear hb_ cH c0 c17 c18
     have oneX : (#[Value.int .i64 1, .int .i64 4, .int .i64 102] : Array Value).all (·.oneCell') = true := by simp [Value.oneCell']
     have RX := hide (setRow_heap x0 (w.heap.size + 1) _ #[.int .i64 1, .int .i64 4, .int .i64 102] _ _ R3)
     have A2 := hide (below_setRow hw (show w.heap.size ≤ w.heap.size + 1 by omega) #[.int .i64 1, .int .i64 4, .int .i64 102])
     clear hw hH hB
     go_wp2_with (first | (refine wpList_store_row rfl 35 _ _ rfl (w.heap.size + 1) #[.int .i64 1, .int .i64 4, .int .i64 102] rfl rfl 35 _ R3 infoFt rfl oneX ?_) | fail)
     refine bodyPost_ret (results_slot_cell Tryz.results19 _ _ (w.heap.size + 1) _ _ _ _ rfl RX.out Tryz.underlying35 rfl infoFtR) rfl ⟨⟨.slice none 0 0, ?_, ?_⟩, A2.out⟩
     · rw [hpk.out]; rfl
     · rw [hpk.out]
       exact own_none10 _ _
 · have hpk : Hid (pk10 2 hl bn = some ⟨1, 3, 102⟩) := hide (by unfold pk10; rw [if_pos h1])
   have hq : ((hl : Int) != 60) = true := by
     have : (hl : Int) ≠ 60 := by omega
     simpa using this
   clear h1
   have oneX : (#[Value.int .i64 1, .int .i64 3, .int .i64 102] : Array Value).all (·.oneCell') = true := by simp [Value.oneCell']
   have RX := hide (setRow_heap w0 (w.heap.size + 1) _ #[.int .i64 1, .int .i64 3, .int .i64 102] _ _ R3)
   have A2 := hide (below_setRow hw (show w.heap.size ≤ w.heap.size + 1 by omega) #[.int .i64 1, .int .i64 3, .int .i64 102])
   clear hw hH hB
   go_wp2_with (first | (refine wpList_store_row rfl 35 _ _ rfl (w.heap.size + 1) #[.int .i64 1, .int .i64 3, .int .i64 102] rfl rfl 35 _ R3 infoFt rfl oneX ?_) | fail)
   refine bodyPost_ret (results_slot_cell Tryz.results19 _ _ (w.heap.size + 1) _ _ _ _ rfl RX.out Tryz.underlying35 rfl infoFtR) rfl ⟨⟨.slice none 0 0, ?_, ?_⟩, A2.out⟩
   · rw [hpk.out]; rfl
   · rw [hpk.out]
     exact own_none10 _ _
set_option maxRecDepth 100000 in
set_option maxHeartbeats 16000000 in
theorem r_PackE0 (ver : Int) (hk : (ver == 1 || ver == 2) = false) (nonce : List B) (ha : Option Addr) (hl hc : Nat) (ba : Option Addr) (bn bc : Nat) (w : World) : Calls Tryz.prog 19 #[.agg (evl ver nonce (.slice ha hl hc) (.slice ba bn bc))] w fun e w' => e = .returned (.tuple #[.slice none 0 0, .agg #[.int .i64 1, .int .i64 1, .int .i64 100]]) ∧ Below w.heap.size w w' := by
 have RH := hp2_0 w (.cells (evl ver nonce (.slice ha hl hc) (.slice ba bn bc)) 51) (.cells #[.int .i64 0, .int .i64 0, .int .i64 0] 35)
 have R3 := hp2_1 w (.cells (evl ver nonce (.slice ha hl hc) (.slice ba bn bc)) 51) (.cells #[.int .i64 0, .int .i64 0, .int .i64 0] 35)
 have hw : Below w.heap.size w ((w.alloc (.cells (evl ver nonce (.slice ha hl hc) (.slice ba bn bc)) 51)).alloc (.cells #[.int .i64 0, .int .i64 0, .int .i64 0] 35)) := ((Below.refl _ _).alloc (Nat.le_refl _) _).alloc (by simp) _
 have oneX : (#[Value.int .i64 1, .int .i64 1, .int .i64 100] : Array Value).all (·.oneCell') = true := by simp [Value.oneCell']
 have cK := r_known10 ver
 rw [hk] at cK
 replace cK := hide cK
 clear hk
 go_enter Tryz.func19, Tryz.ntmps19
 go_upto_region 1 with (first | (refine wpList_box rfl 51 _ rfl _ rfl (bEv _) ?_) | fail)
 try simp only [size_alloc1, Act.put, List.setIfInBounds_toArray, List.set_cons_succ, List.set_cons_zero]
 generalize (w.alloc (.cells (evl ver nonce (.slice ha hl hc) (.slice ba bn bc)) 51)).alloc (.cells #[.int .i64 0, .int .i64 0, .int .i64 0] 35) = w00 at *
 have c0 : w00.cell? ⟨w.heap.size, 0, none⟩ = some (.int .i64 ver) := by rw [cell_of_row _ _ _ _ _ _ RH]; exact evl_0 _ _ _ _
 go_wp2_with (fail)
 refine (cK.out w00).mono ?_
 rintro e_ w0 ⟨rfl, hb_⟩
 have l3 := lt_of_row R3
 replace R3 := keep hb_ R3
 replace hw := Below.after hw hb_
 clear hb_ cK c0 RH
 have RX := hide (setRow_heap w0 (w.heap.size + 1) _ #[.int .i64 1, .int .i64 1, .int .i64 100] _ _ R3)
 have A2 := hide (below_setRow hw (show w.heap.size ≤ w.heap.size + 1 by omega) #[.int .i64 1, .int .i64 1, .int .i64 100])
 clear hw
 go_wp2_with (first | (refine wpList_store_row rfl 35 _ _ rfl (w.heap.size + 1) #[.int .i64 1, .int .i64 1, .int .i64 100] rfl rfl 35 _ R3 infoFt rfl oneX ?_) | fail)
 exact bodyPost_ret (results_slot_cell Tryz.results19 _ _ (w.heap.size + 1) _ _ _ _ rfl RX.out Tryz.underlying35 rfl infoFtR) rfl ⟨rfl, A2.out⟩
theorem r_PackE (ver : Int) (v : Nat) (hv : IntKind.wrap .u64 ver = (v : Int)) (h1 : -9223372036854775808 ≤ ver) (h2 : ver ≤ 9223372036854775807) (nonce : List B) (hn : nonce.length = 16) (ha : Option Addr) (hl hc : Nat) (ba : Option Addr) (bn bc : Nat) (hd bd : List B) (w : World) (hH : BysB w (.slice ha hl hc) hd) (hB : BysB w (.slice ba bn bc) bd) (b1 : hd.length ≤ 140737488351232) (b2 : bd.length ≤ 140737488351232) : Calls Tryz.prog 19 #[.agg (evl ver nonce (.slice ha hl hc) (.slice ba bn bc))] w fun e w' => (∃ u, e = .returned (.tuple #[u, .agg (fPk (pkO v hl bn))]) ∧ Own w' w.heap.size u (oPk (pkO v hl bn) (eout (efs v nonce hd bd)))) ∧ Below w.heap.size w w' := by
 obtain ⟨kn, kt⟩ := ver_known ver v hv h1 h2
 unfold pkO
 cases hk : known10 v with
 | true =>
   obtain ⟨h3, h4⟩ := kt hk
   subst h3
   rw [if_pos rfl]
   rcases h4 with rfl | rfl
   · exact r_PackE1 nonce hn ha hl hc ba bn bc hd bd w hH hB b1 b2
   · exact r_PackE2 nonce hn ha hl hc ba bn bc hd bd w hH hB b1 b2
 | false =>
   rw [if_neg (by simp)]
   rw [hk] at kn
   refine (r_PackE0 ver kn nonce ha hl hc ba bn bc w).mono ?_
   rintro e w' ⟨h, hb⟩
   exact ⟨⟨_, h, own_none10 _ _⟩, hb⟩
end Go.Proofs.YtlbndkfllegacaaGreatDoor

