import Derived.Test.YtleeadbceljfbaaGreatDoorCQd3
import Derived.Test.YtleeadbceljfbaaGreatDoorCQd1
import Derived.Lib.SlBytesConst
import Derived.OwnWalk
import Derived.Deep.Cut
import Derived.Deep.RegionHeld3
import Derived.Test.YtleeadbceljfbaaGreatDoorCJrr
namespace Go.Proofs.YtleeadbceljfbaaGreatDoor
set_option maxRecDepth 100000
open Go Go.RowKit Go.Sort
attribute [local go_sem] setCell_drewN alloc_drewN
theorem hx_make {a : Act} {o : Oper} (t : TypeId) (x y : Operand) (ho : o.op = .makeSlice t x y) (n : Nat) (hx : a.eval x = .int .i64 (n : Int)) (hy : a.eval y = .int .i64 (n : Int)) (W : World) (v : Value) (W' : World) (h : (Instr.makeSlice t (.int .i64 (n : Int)) (.int .i64 (n : Int))).run Tryz.prog W = .ok v W') : (execOp a.eval o).run Tryz.prog W = .ok (.value v) W' := by
 unfold execOp
 simp only [ho, hx, hy, Sem.run_bind, h]
 rfl
theorem hi_bys (W : World) : BysB (W.alloc (.cells #[.int .u8 104, .int .u8 105] 5 (2, 3))) (.slice (some ⟨W.heap.size, 0, none⟩) 2 2) [104#8, 105#8] := ⟨bys_rowF (l := bl [104#8, 105#8]) (hp1_0 W _) (by decide) (bl_bnd _) rfl, by decide, fun a l c h h2 => by cases h; cases h2⟩
theorem a_ParseThere {v : Nat} {nonce hd bd : List B} (hk : known10 v = true) (hn : nonce.length = 16) (h : pk10 v hd.length bd.length = none) (u : Value) (w : World) (hB : BysB w u (eout (efs v nonce hd bd))) (hcap : ∀ a l c, u = .slice a l c → l ≤ c) : Calls Tryz.prog 24 #[u] w fun e w' => (∃ ha hc ba bc, e = .returned (.tuple #[.agg (evl (v : Int) nonce (.slice ha hd.length hc) (.slice ba bd.length bc)), .nilIface]) ∧ Own w' w.heap.size (.slice ha hd.length hc) hd ∧ Own w' w.heap.size (.slice ba bd.length bc) bd) ∧ Below w.heap.size w w' := by
 obtain ⟨h1, h2, h3, _⟩ := there10 hk hn h
 refine (a_ParseE _ u w hB hcap).mono ?_
 rintro e w' ⟨hP, hb⟩
 unfold PrE at hP
 rw [h3, h1, h2] at hP
 obtain ⟨ha, hc, ba, bc, e1, e2, e3, _⟩ := hP
 exact ⟨⟨ha, hc, ba, bc, e1, e2, e3⟩, hb⟩
def z60 : List B := List.replicate 60 0#8
def z80 : List B := List.replicate 80 0#8
theorem bkd_6 : bkd (dg 1) (4 + 2) = 64 := by decide +kernel
theorem bkd_64e : bkd (dg 1) 64 = 64 := by decide +kernel
theorem pk_live : pk10 1 60 80 = none := pk_of rfl (by decide) (by decide) bkd_64e
theorem zr_z60 : irow .u8 (zr 60) = irow .u8 (bl z60) := by rw [show zr 60 = bl z60 by decide]
theorem zr_z80 : irow .u8 (zr 80) = irow .u8 (bl z80) := by rw [show zr 80 = bl z80 by decide]
set_option maxRecDepth 100000 in
set_option maxHeartbeats 8000000 in
theorem l_lives (w : World) (hE : Ety w) : Calls Tryz.prog 13 #[] w fun e w' => e = .returned (.bool true) ∧ Below w.heap.size w w' := by
 have hz : bke 1 (([104#8, 105#8] : List B).length : Int) = 0 := by decide
 obtain ⟨pb1, pb2, pb3⟩ := pad_back hz
 obtain ⟨LB, hLB⟩ : ∃ L, pdr 1 [104#8, 105#8] = L := ⟨_, rfl⟩
 have hl64 : Hid (LB.length = 64) := hide (by rw [← hLB, pb3]; exact bkd_6)
 have hup : Hid (upe 1 LB = 0) := hide (by rw [← hLB]; exact pb1)
 have hur : Hid (upr 1 LB = [104#8, 105#8]) := hide (by rw [← hLB]; exact pb2)
 have hlen : Hid ((eout (efs 1 n16 z60 z80)).length = 164) := hide (by
   rw [(there10 (v := 1) (nonce := n16) (hd := z60) (bd := z80) rfl n16_len pk_live).2.2.2.1, show z80.length = 80 from rfl, en_l1 (by decide)])
 clear pb1 pb2 pb3
 have cA := hide (a_Pad 1 1 rfl (by decide) [104#8, 105#8] (w.alloc (.cells #[.int .u8 104, .int .u8 105] 5 (2, 3))) _ (hi_bys w))
 rw [hz, hLB] at cA
 clear hz hLB
 have hw : Below w.heap.size w (w.alloc (.cells #[.int .u8 104, .int .u8 105] 5 (2, 3))) := (Below.refl _ _).alloc (Nat.le_refl _) _
 replace hE := hE.keep hw rfl
 have kc := fun (W : World) (C : Array Value) (n c : Nat) => Go.Lib.run_convert_bytes_const (P := Tryz.prog) W 28 5 C n c Tryz.underlying28 Tryz.underlying5
 go_enter Tryz.func13, Tryz.ntmps13
 go_wp2_with (fail)
 refine cA.out.mono ?_
 rintro e_ x0 ⟨u, rfl, hO, hb_⟩
 obtain ⟨ua, uc, rfl⟩ : ∃ a c, u = .slice a 64 c := by
   obtain ⟨a, c, e⟩ := slen_own hO
   exact ⟨a, c, by rw [e, hl64.out]⟩
 replace hE := hE.keep hb_ rfl
 replace hw := Below.after hw hb_
 clear cA hb_ kc
 generalize w.alloc (.cells #[.int .u8 104, .int .u8 105] 5 (2, 3)) = w0 at *
 go_upto_region 4 with (fail)
 have hbd : Below x0.heap.size x0 x0.drew := below_drN (Below.refl _ _) 1
 replace hO := hO.keep hbd
 replace hE := hE.keep hbd rfl
 replace hw := Below.after hw hbd
 clear hbd
 refine wp_region_noPanic ?_
 refine wp_region_held (S := fun _ : World => True) (by kernel_rfl) ?_
 change wpAnyH _ _ _ _ _ _ _ _ (World.drew _)
 generalize x0.drew = x1 at *
 refine wpAnyH_two (j := 0) (k := 1) (fuel := 8) (by kernel_rfl) rfl rfl (by kernel_rfl) (by kernel_rfl) (fun K_ hK_ => ?_) (fun K_ hK_ => ?_)
 · refine wp_val_op (.slice (some ⟨x1.heap.size, 0, none⟩) 60 60) (w' := x1.alloc (.cells (irow .u8 (zr 60)) 5)) (hx_make 28 _ _ rfl 60 rfl rfl x1 _ _ (make_lc 60 60 (Nat.le_refl _) (by decide) x1)) ?_
   have RH := hp1_0 x1 (.cells (irow .u8 (zr 60)) 5)
   have hb_ : Below x1.heap.size x1 (x1.alloc (.cells (irow .u8 (zr 60)) 5)) := (Below.refl _ _).alloc (Nat.le_refl _) _
   replace hO := hO.keep hb_
   replace hE := hE.keep hb_ rfl
   replace hw := Below.after hw hb_
   clear hb_
   refine hK_ _ _ trivial ?_
   simp only [Act.put, List.getElem_toArray, List.getElem_cons_zero, List.setIfInBounds_toArray, List.set_cons_succ, List.set_cons_zero]
   clear hK_
   generalize x1.alloc (.cells (irow .u8 (zr 60)) 5) = m1 at *
   generalize x1.heap.size = gh at *
   refine wpAnyH_one (k := 1) (fuel := 7) (by kernel_rfl) rfl (by kernel_rfl) (fun K_ hK_ => ?_)
   refine wp_val_op (.slice (some ⟨m1.heap.size, 0, none⟩) 80 80) (w' := m1.alloc (.cells (irow .u8 (zr 80)) 5)) (hx_make 28 _ _ rfl 80 rfl rfl m1 _ _ (make_lc 80 80 (Nat.le_refl _) (by decide) m1)) ?_
   have RB := hp1_0 m1 (.cells (irow .u8 (zr 80)) 5)
   have hb_ : Below m1.heap.size m1 (m1.alloc (.cells (irow .u8 (zr 80)) 5)) := (Below.refl _ _).alloc (Nat.le_refl _) _
   replace hO := hO.keep hb_
   replace RH := keep hb_ RH
   replace hE := hE.keep hb_ rfl
   replace hw := Below.after hw hb_
   clear hb_
   refine hK_ _ _ trivial ?_
   simp only [Act.put, List.getElem_toArray, List.getElem_cons_succ, List.getElem_cons_zero, List.setIfInBounds_toArray, List.set_cons_succ, List.set_cons_zero]
   clear hK_
   generalize m1.alloc (.cells (irow .u8 (zr 80)) 5) = m2 at *
   generalize m1.heap.size = gb_ at *
   refine wpAnyH_take (i := 2) (v := .agg (evl 1 n16 (.slice (some ⟨gh, 0, none⟩) 60 60) (.slice (some ⟨gb_, 0, none⟩) 80 80))) rfl (by kernel_rfl) (by kernel_rfl) (by kernel_rfl) (fun _ _ _ h => h) (Or.inl ⟨by rfl, ?y1⟩) (trivial) ?r1
   case y1 =>
     intro w_ hS_
     simp only [List.getElem_toArray, List.getElem_cons_succ, List.getElem_cons_zero]
     exact run_build_op 48 _ rfl [(0, .int .i64 1), (2, .slice (some ⟨gh, 0, none⟩) 60 60), (3, .slice (some ⟨gb_, 0, none⟩) 80 80)] rfl _ (builtE3 1 _ 60 60 _ 80 80)
   simp only [Act.put, List.getElem_toArray, List.getElem_cons_succ, List.getElem_cons_zero, List.setIfInBounds_toArray, List.set_cons_succ, List.set_cons_zero]
   refine wpAnyH_one (k := 3) (fuel := 5) (by kernel_rfl) rfl (by kernel_rfl) (fun K_ hK_ => ?_)
   rw [zr_z60] at RH
   rw [zr_z80] at RB
   have cP := a_PackE1 n16 n16_len (some ⟨gh, 0, none⟩) 60 60 (some ⟨gb_, 0, none⟩) 80 80 z60 z80 m2 hE (row_bysB RH rfl (by decide) 60) (row_bysB RB rfl (by decide) 80) rfl rfl (by decide) (by decide)
   rw [pk_live] at cP
   refine wp_call_ex (R := fun v w' => ∃ u, v = .tuple #[u, .nilIface] ∧ Own w' m2.heap.size u (eout (efs 1 n16 z60 z80)) ∧ Below m2.heap.size m2 w') (by kernel_rfl) (cP.mono (fun e w' h => (by obtain ⟨⟨u, e1, e2⟩, e3⟩ := h; exact ⟨_, e1, u, rfl, e2, e3⟩))) (fun v_ m3 hX_ => ?_)
   obtain ⟨up, rfl, hU, hb_⟩ := hX_
   clear cP
   replace hO := hO.keep hb_
   replace RH := keep hb_ RH
   replace RB := keep hb_ RB
   replace hE := hE.keep hb_ rfl
   replace hw := Below.after hw hb_
   clear hb_ RH RB
   refine hK_ _ _ trivial ?_
   simp only [Act.put, List.getElem_toArray, List.getElem_cons_succ, List.getElem_cons_zero, List.setIfInBounds_toArray, List.set_cons_succ, List.set_cons_zero]
   clear hK_
   refine wpAnyH_take (i := 4) (v := ?v2) rfl (by kernel_rfl) (by kernel_rfl) (by kernel_rfl) (fun _ _ _ h => h) (Or.inl ⟨by rfl, ?y2⟩) (trivial) ?r2
   case y2 =>
     intro w_ hS_
     go_simp
     try with_reducible rfl
   simp only [Act.put, List.getElem_toArray, List.getElem_cons_succ, List.getElem_cons_zero, List.setIfInBounds_toArray, List.set_cons_succ, List.set_cons_zero]
   refine wpAnyH_take (i := 5) (v := ?v3) rfl (by kernel_rfl) (by kernel_rfl) (by kernel_rfl) (fun _ _ _ h => h) (Or.inl ⟨by rfl, ?y3⟩) (trivial) ?r3
   case y3 =>
     intro w_ hS_
     go_simp
     try with_reducible rfl
   simp only [Act.put, List.getElem_toArray, List.getElem_cons_succ, List.getElem_cons_zero, List.setIfInBounds_toArray, List.set_cons_succ, List.set_cons_zero]
   refine wpAnyH_take (i := 6) (v := ?v4) rfl (by kernel_rfl) (by kernel_rfl) (by kernel_rfl) (fun _ _ _ h => h) (Or.inl ⟨by rfl, ?y4⟩) (trivial) ?r4
   case y4 =>
     intro w_ hS_
     go_simp
     try with_reducible rfl
   simp only [Act.put, List.getElem_toArray, List.getElem_cons_succ, List.getElem_cons_zero, List.setIfInBounds_toArray, List.set_cons_succ, List.set_cons_zero]
   refine wpAnyH_take (i := 7) (v := ?v5) rfl (by kernel_rfl) (by kernel_rfl) (by kernel_rfl) (fun _ _ _ h => h) (Or.inl ⟨by rfl, ?y5⟩) (trivial) ?r5
   case y5 =>
     intro w_ hS_
     go_simp
     try with_reducible rfl
   simp only [Act.put, List.getElem_toArray, List.getElem_cons_succ, List.getElem_cons_zero, List.setIfInBounds_toArray, List.set_cons_succ, List.set_cons_zero]
   refine wpAnyH_take (i := 8) (v := ?v6) rfl (by kernel_rfl) (by kernel_rfl) (by kernel_rfl) (fun _ _ _ h => h) (Or.inl ⟨by rfl, ?y6⟩) (trivial) ?r6
   case y6 =>
     intro w_ hS_
     go_simp
     try with_reducible rfl
   simp only [Act.put, List.getElem_toArray, List.getElem_cons_succ, List.getElem_cons_zero, List.setIfInBounds_toArray, List.set_cons_succ, List.set_cons_zero]
   refine wpAnyH_done (by kernel_rfl) ?_ _
   refine NoPanic.normal ?_
   obtain ⟨pa, pc, rfl⟩ : ∃ pa pc, up = .slice pa 164 pc := by
     obtain ⟨a, c, e⟩ := slen_own hU
     exact ⟨a, c, by rw [e, hlen.out]⟩
   have hcp := own_cap hU
   have hUb := hU.bysB (by rw [hlen.out]; decide)
   have cQ := hide (a_ParseThere (v := 1) (hd := z60) (bd := z80) rfl n16_len pk_live (.slice pa 164 pc) m3 hUb hcp)
   clear hcp hUb
   go_wp2_with (fail)
   refine cQ.out.mono ?_
   rintro e_ p1 ⟨⟨ha, hc, ba, bc, rfl, _, _⟩, hb_⟩
   replace hO := hO.keep hb_
   replace hw := Below.after hw hb_
   clear cQ hb_ hE hU
   have z_ := hp1_0 p1 (.cells (evl 0 n16 (.slice none 0 0) (.slice none 0 0)) 48)
   go_wp2_with (first | (refine wpList_alloc rfl 48 rfl (evl 0 n16 (.slice none 0 0) (.slice none 0 0)) zEnv ?_) | (refine wpList_store_row rfl 48 _ _ rfl p1.heap.size (evl 1 n16 (.slice ha 60 hc) (.slice ba 80 bc)) rfl rfl 48 _ z_ (evl_info _ _ n16_len _ _) (by rw [evl_size _ _ n16_len, evl_size _ _ n16_len]) (evl_one _ _ _ _ _ _ _ _) ?_; refine wpList_stay ?_) | fail)
   unfold WpStay
   try simp only [Act.put, List.setIfInBounds_toArray, List.set_cons_succ, List.set_cons_zero]
   have RO := setRow_heap (p1.alloc (.cells (evl 0 n16 (.slice none 0 0) (.slice none 0 0)) 48)) p1.heap.size _ (evl 1 n16 (.slice ha 60 hc) (.slice ba 80 bc)) _ _ z_
   have hb_ : Below p1.heap.size p1 ((p1.alloc (.cells (evl 0 n16 (.slice none 0 0) (.slice none 0 0)) 48)).setRow p1.heap.size (evl 1 n16 (.slice ha 60 hc) (.slice ba 80 bc))) := below_setRow ((Below.refl _ _).alloc (Nat.le_refl _) _) (Nat.le_refl _) _
   clear z_
   replace hO := hO.keep hb_
   replace hw := Below.after hw hb_
   clear hb_
   generalize (p1.alloc (.cells (evl 0 n16 (.slice none 0 0) (.slice none 0 0)) 48)).setRow p1.heap.size (evl 1 n16 (.slice ha 60 hc) (.slice ba 80 bc)) = p2 at *
   generalize p1.heap.size = gO at *
   have cU := hide (a_Unpad 1 1 rfl (by decide) LB p2 (.slice ua 64 uc) (hO.bysB (by rw [hl64.out]; decide)) (own_cap hO))
   rw [hup.out, hur.out] at cU
   go_wp2_with (fail)
   refine cU.out.mono ?_
   rintro e_ p3 ⟨pl, rfl, hQ, hb_⟩
   obtain ⟨qa, qc, rfl⟩ : ∃ a c, pl = .slice a 2 c := slen_own hQ
   have cv := conv_bys10 hQ.bys
   rw [show strOfNums (bl [104#8, 105#8]) = { data := #[104, 105] } by decide] at cv
   have lO := lt_of_row RO
   replace RO := keep hb_ RO
   replace hw := Below.after hw hb_
   clear cU hb_ hO hQ
   have c18 : p3.cell? ⟨gO, 18, none⟩ = some (.slice ba 80 bc) := by rw [cell_of_row _ _ _ _ _ _ RO]; exact evl_b _ _ n16_len _ _
   have n1 := eql_nilE
   go_wp2_with (fail)
   go_ret
   exact ⟨rfl, hw⟩
 · refine wp_val_op (.slice (some ⟨x1.heap.size, 0, none⟩) 80 80) (w' := x1.alloc (.cells (irow .u8 (zr 80)) 5)) (hx_make 28 _ _ rfl 80 rfl rfl x1 _ _ (make_lc 80 80 (Nat.le_refl _) (by decide) x1)) ?_
   have RB := hp1_0 x1 (.cells (irow .u8 (zr 80)) 5)
   have hb_ : Below x1.heap.size x1 (x1.alloc (.cells (irow .u8 (zr 80)) 5)) := (Below.refl _ _).alloc (Nat.le_refl _) _
   replace hO := hO.keep hb_
   replace hE := hE.keep hb_ rfl
   replace hw := Below.after hw hb_
   clear hb_
   refine hK_ _ _ trivial ?_
   simp only [Act.put, List.getElem_toArray, List.getElem_cons_succ, List.getElem_cons_zero, List.setIfInBounds_toArray, List.set_cons_succ, List.set_cons_zero]
   clear hK_
   generalize x1.alloc (.cells (irow .u8 (zr 80)) 5) = m4 at *
   generalize x1.heap.size = gb_ at *
   refine wpAnyH_one (k := 0) (fuel := 7) (by kernel_rfl) rfl (by kernel_rfl) (fun K_ hK_ => ?_)
   refine wp_val_op (.slice (some ⟨m4.heap.size, 0, none⟩) 60 60) (w' := m4.alloc (.cells (irow .u8 (zr 60)) 5)) (hx_make 28 _ _ rfl 60 rfl rfl m4 _ _ (make_lc 60 60 (Nat.le_refl _) (by decide) m4)) ?_
   have RH := hp1_0 m4 (.cells (irow .u8 (zr 60)) 5)
   have hb_ : Below m4.heap.size m4 (m4.alloc (.cells (irow .u8 (zr 60)) 5)) := (Below.refl _ _).alloc (Nat.le_refl _) _
   replace hO := hO.keep hb_
   replace RB := keep hb_ RB
   replace hE := hE.keep hb_ rfl
   replace hw := Below.after hw hb_
   clear hb_
   refine hK_ _ _ trivial ?_
   simp only [Act.put, List.getElem_toArray, List.getElem_cons_zero, List.setIfInBounds_toArray, List.set_cons_succ, List.set_cons_zero]
   clear hK_
   generalize m4.alloc (.cells (irow .u8 (zr 60)) 5) = m5 at *
   generalize m4.heap.size = gh at *
   refine wpAnyH_take (i := 2) (v := .agg (evl 1 n16 (.slice (some ⟨gh, 0, none⟩) 60 60) (.slice (some ⟨gb_, 0, none⟩) 80 80))) rfl (by kernel_rfl) (by kernel_rfl) (by kernel_rfl) (fun _ _ _ h => h) (Or.inl ⟨by rfl, ?y7⟩) (trivial) ?r7
   case y7 =>
     intro w_ hS_
     simp only [List.getElem_toArray, List.getElem_cons_succ, List.getElem_cons_zero]
     exact run_build_op 48 _ rfl [(0, .int .i64 1), (2, .slice (some ⟨gh, 0, none⟩) 60 60), (3, .slice (some ⟨gb_, 0, none⟩) 80 80)] rfl _ (builtE3 1 _ 60 60 _ 80 80)
   simp only [Act.put, List.getElem_toArray, List.getElem_cons_succ, List.getElem_cons_zero, List.setIfInBounds_toArray, List.set_cons_succ, List.set_cons_zero]
   refine wpAnyH_one (k := 3) (fuel := 5) (by kernel_rfl) rfl (by kernel_rfl) (fun K_ hK_ => ?_)
   rw [zr_z60] at RH
   rw [zr_z80] at RB
   have cP := a_PackE1 n16 n16_len (some ⟨gh, 0, none⟩) 60 60 (some ⟨gb_, 0, none⟩) 80 80 z60 z80 m5 hE (row_bysB RH rfl (by decide) 60) (row_bysB RB rfl (by decide) 80) rfl rfl (by decide) (by decide)
   rw [pk_live] at cP
   refine wp_call_ex (R := fun v w' => ∃ u, v = .tuple #[u, .nilIface] ∧ Own w' m5.heap.size u (eout (efs 1 n16 z60 z80)) ∧ Below m5.heap.size m5 w') (by kernel_rfl) (cP.mono (fun e w' h => (by obtain ⟨⟨u, e1, e2⟩, e3⟩ := h; exact ⟨_, e1, u, rfl, e2, e3⟩))) (fun v_ m6 hX_ => ?_)
   obtain ⟨up, rfl, hU, hb_⟩ := hX_
   clear cP
   replace hO := hO.keep hb_
   replace RB := keep hb_ RB
   replace RH := keep hb_ RH
   replace hE := hE.keep hb_ rfl
   replace hw := Below.after hw hb_
   clear hb_ RH RB
   refine hK_ _ _ trivial ?_
   simp only [Act.put, List.getElem_toArray, List.getElem_cons_succ, List.getElem_cons_zero, List.setIfInBounds_toArray, List.set_cons_succ, List.set_cons_zero]
   clear hK_
   refine wpAnyH_take (i := 4) (v := ?v8) rfl (by kernel_rfl) (by kernel_rfl) (by kernel_rfl) (fun _ _ _ h => h) (Or.inl ⟨by rfl, ?y8⟩) (trivial) ?r8
   case y8 =>
     intro w_ hS_
     go_simp
     try with_reducible rfl
   simp only [Act.put, List.getElem_toArray, List.getElem_cons_succ, List.getElem_cons_zero, List.setIfInBounds_toArray, List.set_cons_succ, List.set_cons_zero]
   refine wpAnyH_take (i := 5) (v := ?v9) rfl (by kernel_rfl) (by kernel_rfl) (by kernel_rfl) (fun _ _ _ h => h) (Or.inl ⟨by rfl, ?y9⟩) (trivial) ?r9
   case y9 =>
     intro w_ hS_
     go_simp
     try with_reducible rfl
   simp only [Act.put, List.getElem_toArray, List.getElem_cons_succ, List.getElem_cons_zero, List.setIfInBounds_toArray, List.set_cons_succ, List.set_cons_zero]
   refine wpAnyH_take (i := 6) (v := ?v10) rfl (by kernel_rfl) (by kernel_rfl) (by kernel_rfl) (fun _ _ _ h => h) (Or.inl ⟨by rfl, ?y10⟩) (trivial) ?r10
   case y10 =>
     intro w_ hS_
     go_simp
     try with_reducible rfl
   simp only [Act.put, List.getElem_toArray, List.getElem_cons_succ, List.getElem_cons_zero, List.setIfInBounds_toArray, List.set_cons_succ, List.set_cons_zero]
   refine wpAnyH_take (i := 7) (v := ?v11) rfl (by kernel_rfl) (by kernel_rfl) (by kernel_rfl) (fun _ _ _ h => h) (Or.inl ⟨by rfl, ?y11⟩) (trivial) ?r11
   case y11 =>
     intro w_ hS_
     go_simp
     try with_reducible rfl
   simp only [Act.put, List.getElem_toArray, List.getElem_cons_succ, List.getElem_cons_zero, List.setIfInBounds_toArray, List.set_cons_succ, List.set_cons_zero]
   refine wpAnyH_take (i := 8) (v := ?v12) rfl (by kernel_rfl) (by kernel_rfl) (by kernel_rfl) (fun _ _ _ h => h) (Or.inl ⟨by rfl, ?y12⟩) (trivial) ?r12
   case y12 =>
     intro w_ hS_
     go_simp
     try with_reducible rfl
   simp only [Act.put, List.getElem_toArray, List.getElem_cons_succ, List.getElem_cons_zero, List.setIfInBounds_toArray, List.set_cons_succ, List.set_cons_zero]
   refine wpAnyH_done (by kernel_rfl) ?_ _
   refine NoPanic.normal ?_
   obtain ⟨pa, pc, rfl⟩ : ∃ pa pc, up = .slice pa 164 pc := by
     obtain ⟨a, c, e⟩ := slen_own hU
     exact ⟨a, c, by rw [e, hlen.out]⟩
   have hcp := own_cap hU
   have hUb := hU.bysB (by rw [hlen.out]; decide)
   have cQ := hide (a_ParseThere (v := 1) (hd := z60) (bd := z80) rfl n16_len pk_live (.slice pa 164 pc) m6 hUb hcp)
   clear hcp hUb
   go_wp2_with (fail)
   refine cQ.out.mono ?_
   rintro e_ p1 ⟨⟨ha, hc, ba, bc, rfl, _, _⟩, hb_⟩
   replace hO := hO.keep hb_
   replace hw := Below.after hw hb_
   clear cQ hb_ hE hU
   have z_ := hp1_0 p1 (.cells (evl 0 n16 (.slice none 0 0) (.slice none 0 0)) 48)
   go_wp2_with (first | (refine wpList_alloc rfl 48 rfl (evl 0 n16 (.slice none 0 0) (.slice none 0 0)) zEnv ?_) | (refine wpList_store_row rfl 48 _ _ rfl p1.heap.size (evl 1 n16 (.slice ha 60 hc) (.slice ba 80 bc)) rfl rfl 48 _ z_ (evl_info _ _ n16_len _ _) (by rw [evl_size _ _ n16_len, evl_size _ _ n16_len]) (evl_one _ _ _ _ _ _ _ _) ?_; refine wpList_stay ?_) | fail)
   unfold WpStay
   try simp only [Act.put, List.setIfInBounds_toArray, List.set_cons_succ, List.set_cons_zero]
   have RO := setRow_heap (p1.alloc (.cells (evl 0 n16 (.slice none 0 0) (.slice none 0 0)) 48)) p1.heap.size _ (evl 1 n16 (.slice ha 60 hc) (.slice ba 80 bc)) _ _ z_
   have hb_ : Below p1.heap.size p1 ((p1.alloc (.cells (evl 0 n16 (.slice none 0 0) (.slice none 0 0)) 48)).setRow p1.heap.size (evl 1 n16 (.slice ha 60 hc) (.slice ba 80 bc))) := below_setRow ((Below.refl _ _).alloc (Nat.le_refl _) _) (Nat.le_refl _) _
   clear z_
   replace hO := hO.keep hb_
   replace hw := Below.after hw hb_
   clear hb_
   generalize (p1.alloc (.cells (evl 0 n16 (.slice none 0 0) (.slice none 0 0)) 48)).setRow p1.heap.size (evl 1 n16 (.slice ha 60 hc) (.slice ba 80 bc)) = p2 at *
   generalize p1.heap.size = gO at *
   have cU := hide (a_Unpad 1 1 rfl (by decide) LB p2 (.slice ua 64 uc) (hO.bysB (by rw [hl64.out]; decide)) (own_cap hO))
   rw [hup.out, hur.out] at cU
   go_wp2_with (fail)
   refine cU.out.mono ?_
   rintro e_ p3 ⟨pl, rfl, hQ, hb_⟩
   obtain ⟨qa, qc, rfl⟩ : ∃ a c, pl = .slice a 2 c := slen_own hQ
   have cv := conv_bys10 hQ.bys
   rw [show strOfNums (bl [104#8, 105#8]) = { data := #[104, 105] } by decide] at cv
   have lO := lt_of_row RO
   replace RO := keep hb_ RO
   replace hw := Below.after hw hb_
   clear cU hb_ hO hQ
   have c18 : p3.cell? ⟨gO, 18, none⟩ = some (.slice ba 80 bc) := by rw [cell_of_row _ _ _ _ _ _ RO]; exact evl_b _ _ n16_len _ _
   have n1 := eql_nilE
   go_wp2_with (fail)
   go_ret
   exact ⟨rfl, hw⟩
end Go.Proofs.YtleeadbceljfbaaGreatDoor
namespace Go.Proofs.YtleeadbceljfbaaGreatDoor
set_option maxRecDepth 100000
open Go Go.RowKit Go.Sort
theorem wpList_eql {P : Program} {ops : Array Oper} {Q : Exit → Act → World → Prop} {w : World} {rest : List Oper} {o : Oper} {a : Act} (hw : Region.wanted o (yielded ops a.tmps) = true) (t u : TypeId) (x y : Operand) (ho : o.op = .binOp .eql t x y u) (X Y : Array Value) (hx : a.eval x = .agg X) (hy : a.eval y = .agg Y) (hg : P.eqGuardType P.depth t = false) (B : Bool) (he : (Op.equalIn 10000 t (.agg X) (.agg Y)).run P w = .ok B w) (h : wpList P ops Q rest (a.put o.dst (.bool B)) w) : wpList P ops Q (o :: rest) a w :=
 BigFrame.wpList_want hw fun _ hK => wp_world_op _ _ (run_eql_op t u x y ho X Y hx hy hg B he) (hK _ _ h)
theorem wpList_neqS {P : Program} {ops : Array Oper} {Q : Exit → Act → World → Prop} {w : World} {rest : List Oper} {o : Oper} {a : Act} (hw : Region.wanted o (yielded ops a.tmps) = true) (t u : TypeId) (x y : Operand) (ho : o.op = .binOp .neq t x y u) (X Y : Array Value) (hx : a.eval x = .agg X) (hy : a.eval y = .agg Y) (hg : P.eqGuardType P.depth t = false) (B : Bool) (he : (Op.equalIn 10000 t (.agg X) (.agg Y)).run P w = .ok B w)
   (h : wpList P ops Q rest (a.put o.dst (.bool (!B))) w) : wpList P ops Q (o :: rest) a w :=
 BigFrame.wpList_want hw fun _ hK => wp_world_op _ _ (run_neq_op t u x y ho X Y hx hy hg B he) (hK _ _ h)
theorem fldHd : ∃ f0 f1 f2, (Tryz.prog.fieldsOf 37).toList = [f0, f1, f2] ∧ f0.name ≠ "_" ∧ f0.type = 34 ∧ f0.offset = 0 ∧ f1.name ≠ "_" ∧ f1.type = 35 ∧ f1.offset = 32 ∧ f2.name ≠ "_" ∧ f2.type = 35 ∧ f2.offset = 33 := ⟨_, _, _, rfl, by decide, rfl, rfl, by decide, rfl, rfl, by decide, rfl, rfl⟩
theorem strHd : Tryz.prog.underlying 37 = some (.struct (Tryz.prog.fieldsOf 37)) := by kernel_rfl
theorem stoHd : Tryz.prog.stoodInHeld 37 = false := by kernel_rfl
theorem part_uH {cs : Array Value} {n : Int} {o : Nat} (h : cs[o]? = some (.int .u32 n)) (W : World) : (part 35 cs o).run Tryz.prog W = .ok (.int .u32 n) W := by
 have ha : (isAgg 35).run Tryz.prog W = .ok false W := by
   unfold isAgg
   rw [Sem.run_bind, run_underlying Tryz.underlying35 W]
   rfl
 simp [part, Sem.run_bind, ha, h]
theorem hrw_key (pub : List B) (hp : pub.length = 32) (prev m : Nat) : (hrw pub prev m).extract 0 (0 + (irow .u8 (bl pub)).size) = irow .u8 (bl pub) := by
 have e : (irow .u8 (bl pub)).size = 32 := by simp [irow, bl, hp]
 rw [e]
 unfold hrw
 rw [Array.extract_append]
 simp [e]
theorem hrw_at (pub : List B) (hp : pub.length = 32) (prev m : Nat) : (hrw pub prev m)[32]? = some (.int .u32 (prev : Int)) ∧ (hrw pub prev m)[33]? = some (.int .u32 (m : Int)) := by
 have e : (irow .u8 (bl pub)).size = 32 := by simp [irow, bl, hp]
 unfold hrw
 constructor <;> (rw [Array.getElem?_append_right (by omega), e]; rfl)
theorem eq_hrw (pub : List B) (hp : pub.length = 32) (prev m : Nat) (W : World) : (Op.equalIn 10000 37 (.agg (hrw pub prev m)) (.agg (hrw pub prev m))).run Tryz.prog W = .ok true W := by
 obtain ⟨f0, f1, f2, hf, n0, t0, o0, n1, t1, o1, n2, t2, o2⟩ := fldHd
 rw [run_equalIn_struct W 9999 37 _ _ strHd stoHd, hf]
 have i0 := fun p q => run_equalIn_int W (P := Tryz.prog) 9998 35 .u32 .u32 p q Tryz.underlying35
 have hl : (bl pub).length = 32 := by rw [bl_len, hp]
 have a := hrw_at pub hp prev m
 rw [eqf_cons n0 (by rw [t0, o0]; exact part_key hl (hrw_key pub hp prev m) W) (by rw [t0, o0]; exact part_key hl (hrw_key pub hp prev m) W) (by rw [t0]; exact eq_key 9997 (bl pub) (bl pub) hl hl W), eqf_cons n1 (by rw [t1, o1]; exact part_uH a.1 W) (by rw [t1, o1]; exact part_uH a.1 W) (by rw [t1]; exact i0 prev prev), eqf_cons n2 (by rw [t2, o2]; exact part_uH a.2 W) (by rw [t2, o2]; exact part_uH a.2 W) (by rw [t2]; exact i0 m m), eqf_nil]
 simp
def hfd10 (pub : List B) (prev m : Nat) : List Fd := [⟨1, 2, 0, pub⟩, ⟨2, 5, prev, []⟩, ⟨3, 5, m, []⟩]
theorem hfd_at10 (g : Nat) (pub : List B) (prev m : Nat) : fdk hdr (hxs g prev m) [pub, [], []] 3 = hfd10 pub prev m := rfl
theorem hfd_bs {pub : List B} (hp : pub.length = 32) (prev m : Nat) : ebs (hfd10 pub prev m) = [10#8, 32#8] ++ pub ++ [21#8] ++ fx 4 prev ++ [29#8] ++ fx 4 m := by
 have e1 : fby ⟨1, 2, 0, pub⟩ = [10#8] ++ ([32#8] ++ pub) := by
   unfold fby
   rw [show fhd ⟨1, 2, 0, pub⟩ = 10 from rfl, en_lo (by decide), show fvl ⟨1, 2, 0, pub⟩ = itm pub from rfl, itm, hp, en_lo (by decide)]
 have e2 : fby ⟨2, 5, prev, []⟩ = [21#8] ++ fx 4 prev := by
   unfold fby
   rw [show fhd ⟨2, 5, prev, []⟩ = 21 from rfl, en_lo (by decide)]
   rfl
 have e3 : fby ⟨3, 5, m, []⟩ = [29#8] ++ fx 4 m := by
   unfold fby
   rw [show fhd ⟨3, 5, m, []⟩ = 29 from rfl, en_lo (by decide)]
   rfl
 unfold hfd10
 rw [ebs, ebs, ebs, ebs, e1, e2, e3]
 simp
theorem fx_l4 (n : Nat) : (fx 4 n).length = 4 := rfl
theorem hfd_len {pub : List B} (hp : pub.length = 32) (prev m : Nat) : (ebs (hfd10 pub prev m)).length = 44 := by
 rw [hfd_bs hp]
 simp [hp, fx_l4]
theorem hfd_eer {pub : List B} (hp : pub.length = 32) {prev m : Nat} (h1 : prev < 4294967296) (h2 : m < 4294967296) : eer (hfd10 pub prev m) = 0 := by
 refine eer_ok.2 ⟨by show 3 ≤ 64; decide, ?_, by rw [hfd_len hp]; decide⟩
 have a : prev ≤ 4294967295 := by omega
 have b : m ≤ 4294967295 := by omega
 simp [hfd10, ech, fck, hck, fits, known, a, b]
theorem hfd_fok {pub : List B} (hp : pub.length = 32) {prev m : Nat} (h1 : prev < 4294967296) (h2 : m < 4294967296) : ∀ f ∈ hfd10 pub prev m, Fok f := by
 intro f hf
 simp only [hfd10, List.mem_cons, List.not_mem_nil, or_false] at hf
 rcases hf with rfl | rfl | rfl
 · exact ⟨by show 0 < _; decide, by show pub.length ≤ _; omega, by show (-9223372036854775808 : Int) ≤ 1; decide, by show (1 : Int) ≤ _; decide⟩
 · exact ⟨by show prev < _; omega, by show 0 ≤ _; omega, by show (-9223372036854775808 : Int) ≤ 2; decide, by show (2 : Int) ≤ _; decide⟩
 · exact ⟨by show m < _; omega, by show 0 ≤ _; omega, by show (-9223372036854775808 : Int) ≤ 3; decide, by show (3 : Int) ≤ _; decide⟩
theorem hfd_out {pub : List B} (hp : pub.length = 32) {prev m : Nat} (h1 : prev < 4294967296) (h2 : m < 4294967296) : eout (hfd10 pub prev m) = ebs (hfd10 pub prev m) := by
 unfold eout
 rw [if_pos (hfd_eer hp h1 h2)]
theorem hd_len {pub : List B} (hp : pub.length = 32) {prev m : Nat} (h1 : prev < 4294967296) (h2 : m < 4294967296) : (eout (hfd10 pub prev m)).length = 44 := by
 rw [hfd_out hp h1 h2, hfd_len hp]
theorem hd_there {pub : List B} (hp : pub.length = 32) {prev m : Nat} (h1 : prev < 4294967296) (h2 : m < 4294967296) : dec8 hdr (eout (hfd10 pub prev m)) 0 = none ∧ hdP (eout (hfd10 pub prev m)) = hrw pub prev m := by
 rw [hfd_out hp h1 h2]
 obtain ⟨d1, d2, d3⟩ := enc_dec (hfd_eer hp h1 h2) (hfd_fok hp h1 h2)
 constructor
 · unfold dec8
   rw [d1, d3, if_neg (by simp)]
   have q1 : ∀ a, dsl (.mk 1 5 32 32 []) ⟨1, 2, 0, pub⟩ a = none := fun a => dsl_some rfl rfl (show wth (pub.length : Int) 32 32 = 0 by rw [hp]; rfl)
   have q2 : ∀ a, dsl (.mk 2 2 0 4294967295 []) ⟨2, 5, prev, []⟩ a = none := fun a => dsl_some rfl rfl (show wth (prev : Int) 0 4294967295 = 0 from wth_in (by omega) (by omega))
   have q3 : ∀ a, dsl (.mk 3 2 0 4294967295 []) ⟨3, 5, m, []⟩ a = none := fun a => dsl_some rfl rfl (show wth (m : Int) 0 4294967295 = 0 from wth_in (by omega) (by omega))
   simp only [hdr, hfd10, dcF, q1, q2, q3]
 · unfold hdP
   rw [d3]
   rfl
theorem hd_back {d : List B} (h : dec8 hdr d 0 = none) : ∃ (pub : List B) (prev m : Nat), pub.length = 32 ∧ prev < 4294967296 ∧ m < 4294967296 ∧ hdP d = hrw pub prev m ∧ eout (hfd10 pub prev m) = d := by
 obtain ⟨d0, pub, prev, m, hfs, hp, h1, h2⟩ := dec_hdr h
 have he := dec_enc d0
 rw [hfs] at he
 exact ⟨pub, prev, m, hp, h1, h2, by unfold hdP; rw [hfs]; rfl, he.2⟩
theorem fxv_l4 {l : List B} (h : l.length = 4) : fxv l < 4294967296 ∧ fx 4 (fxv l) = l := by
 match l, h with
 | [a, b, c, e], _ =>
   have ha := a.isLt
   have hb := b.isLt
   have hc := c.isLt
   have he := e.isLt
   refine ⟨?_, fx_fxv [a, b, c, e]⟩
   simp only [fxv]
   omega
theorem hd_form {d : List B} (h : d.length = 44) (h0 : gb d 0 = 10#8) (h1 : gb d 1 = 32#8) (h2 : gb d 34 = 21#8) (h3 : gb d 39 = 29#8) : dec8 hdr d 0 = none := by
 have g : ∀ i, (hi : i < d.length) → d[i] = gb d i := fun i hi => by simp [gb, List.getD_eq_getElem?_getD, List.getElem?_eq_getElem hi]
 have e : d = [10#8, 32#8] ++ (d.drop 2).take 32 ++ [21#8] ++ (d.drop 35).take 4 ++ [29#8] ++ (d.drop 40).take 4 := by
   have a0 : d.drop 0 = gb d 0 :: d.drop 1 := by rw [List.drop_eq_getElem_cons (by omega), g]
   have a1 : d.drop 1 = gb d 1 :: d.drop 2 := by rw [List.drop_eq_getElem_cons (by omega), g]
   have a2 : d.drop 34 = gb d 34 :: d.drop 35 := by rw [List.drop_eq_getElem_cons (by omega), g]
   have a3 : d.drop 39 = gb d 39 :: d.drop 40 := by rw [List.drop_eq_getElem_cons (by omega), g]
   have b1 : d.drop 2 = (d.drop 2).take 32 ++ d.drop 34 := by rw [show d.drop 34 = (d.drop 2).drop 32 by rw [List.drop_drop], List.take_append_drop]
   have b2 : d.drop 35 = (d.drop 35).take 4 ++ d.drop 39 := by rw [show d.drop 39 = (d.drop 35).drop 4 by rw [List.drop_drop], List.take_append_drop]
   have b3 : d.drop 40 = (d.drop 40).take 4 := by rw [List.take_of_length_le (by rw [List.length_drop]; omega)]
   rw [h0] at a0
   rw [h1] at a1
   rw [h2] at a2
   rw [h3] at a3
   conv => lhs; rw [← List.drop_zero (l := d), a0, a1, b1, a2, b2, a3, b3]
   simp
 have hp : ((d.drop 2).take 32).length = 32 := by rw [List.length_take, List.length_drop]; omega
 obtain ⟨l1, f1⟩ := fxv_l4 (l := (d.drop 35).take 4) (by rw [List.length_take, List.length_drop]; omega)
 obtain ⟨l2, f2⟩ := fxv_l4 (l := (d.drop 40).take 4) (by rw [List.length_take, List.length_drop]; omega)
 have hb := hfd_bs hp (fxv ((d.drop 35).take 4)) (fxv ((d.drop 40).take 4))
 rw [f1, f2, ← e] at hb
 have ht := (hd_there hp l1 l2).1
 rw [hfd_out hp l1 l2, hb] at ht
 exact ht
end Go.Proofs.YtleeadbceljfbaaGreatDoor
