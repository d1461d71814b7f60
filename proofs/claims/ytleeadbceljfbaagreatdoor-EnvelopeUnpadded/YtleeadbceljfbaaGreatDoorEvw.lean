import Derived.Test.YtleeadbceljfbaaGreatDoorEvm
import Derived.Test.YtleeadbceljfbaaGreatDoorQd4
import Derived.Test.YtleeadbceljfbaaGreatDoorQd3
import Derived.Lib.SlBytesConst
import Derived.OwnWalk
import Derived.Deep.Cut
import Derived.Deep.RegionHeld3
namespace Go.Proofs.YtleeadbceljfbaaGreatDoor
set_option maxRecDepth 100000
open Go Go.RowKit Go.Sort
attribute [local go_sem] setCell_drewN alloc_drewN
theorem hx_make {a : Act} {o : Oper} (t : TypeId) (x y : Operand) (ho : o.op = .makeSlice t x y) (n : Nat) (hx : a.eval x = .int .i64 (n : Int)) (hy : a.eval y = .int .i64 (n : Int)) (W : World) (v : Value) (W' : World) (h : (Instr.makeSlice t (.int .i64 (n : Int)) (.int .i64 (n : Int))).run Tryz.prog W = .ok v W') : (execOp a.eval o).run Tryz.prog W = .ok (.value v) W' := by
  unfold execOp
  simp only [ho, hx, hy, Sem.run_bind, h]
  rfl
theorem hi_bys (W : World) : BysB (W.alloc (.cells #[.int .u8 104, .int .u8 105] 5 (2, 3))) (.slice (some ⟨W.heap.size, 0, none⟩) 2 2) [104#8, 105#8] := ⟨bys_rowF (l := bl [104#8, 105#8]) (hp1_0 W _) (by decide) (bl_bnd _) rfl, by decide, fun a l c h h2 => by cases h; cases h2⟩
/-- Parse of what Pack made. -/
theorem a_ParseThere {v : Nat} {nonce hd bd : List B} (hk : known10 v = true) (hn : nonce.length = 16) (h : pk10 v hd.length bd.length = none) (u : Value) (w : World) (hB : BysB w u (eout (efs v nonce hd bd))) (hcap : ∀ a l c, u = .slice a l c → l ≤ c) : Calls Tryz.prog 24 #[u] w fun e w' => (∃ ha hc ba bc, e = .returned (.tuple #[.agg (evl (v : Int) nonce (.slice ha hd.length hc) (.slice ba bd.length bc)), .nilIface]) ∧ Own w' w.heap.size (.slice ha hd.length hc) hd ∧ Own w' w.heap.size (.slice ba bd.length bc) bd) ∧ Below w.heap.size w w' := by
  obtain ⟨h1, h2, h3, _⟩ := there10 hk hn h
  refine (a_ParseE _ u w hB hcap).mono ?_
  rintro e w' ⟨hP, hb⟩
  unfold PrE at hP
  rw [h3, h1, h2] at hP
  obtain ⟨ha, hc, ba, bc, e1, e2, e3, _⟩ := hP
  exact ⟨⟨ha, hc, ba, bc, e1, e2, e3⟩, hb⟩
def z60 : List B := List.replicate 60 0#8
def z80 : List B := List.replicate 80 0#8
theorem bkd_6 : bkd (dg 1) (4 + 2) = 64 := by decide +kernel
theorem bkd_64e : bkd (dg 1) 64 = 64 := by decide +kernel
theorem pk_live : pk10 1 60 80 = none := pk_of rfl (by decide) (by decide) bkd_64e
theorem zr_z60 : irow .u8 (zr 60) = irow .u8 (bl z60) := by rw [show zr 60 = bl z60 by decide]
theorem zr_z80 : irow .u8 (zr 80) = irow .u8 (bl z80) := by rw [show zr 80 = bl z80 by decide]
set_option maxRecDepth 100000 in
set_option maxHeartbeats 8000000 in
theorem l_lives (w : World) (hE : Ety w) : Calls Tryz.prog 13 #[] w fun e w' => e = .returned (.bool true) ∧ Below w.heap.size w w' := by
  have hz : bke 1 (([104#8, 105#8] : List B).length : Int) = 0 := by decide
  obtain ⟨pb1, pb2, pb3⟩ := pad_back hz
  obtain ⟨LB, hLB⟩ : ∃ L, pdr 1 [104#8, 105#8] = L := ⟨_, rfl⟩
  have hl64 : Hid (LB.length = 64) := hide (by rw [← hLB, pb3]; exact bkd_6)
  have hup : Hid (upe 1 LB = 0) := hide (by rw [← hLB]; exact pb1)
  have hur : Hid (upr 1 LB = [104#8, 105#8]) := hide (by rw [← hLB]; exact pb2)
  have hlen : Hid ((eout (efs 1 n16 z60 z80)).length = 164) := hide (by
    rw [(there10 (v := 1) (nonce := n16) (hd := z60) (bd := z80) rfl n16_len pk_live).2.2.2.1, show z80.length = 80 from rfl, en_l1 (by decide)])
  clear pb1 pb2 pb3
  have cA := hide (a_Pad 1 1 rfl (by decide) [104#8, 105#8] (w.alloc (.cells #[.int .u8 104, .int .u8 105] 5 (2, 3))) _ (hi_bys w))
  rw [hz, hLB] at cA
  clear hz hLB
  have hw : Below w.heap.size w (w.alloc (.cells #[.int .u8 104, .int .u8 105] 5 (2, 3))) := (Below.refl _ _).alloc (Nat.le_refl _) _
  replace hE := hE.keep hw rfl
  have kc := fun (W : World) (C : Array Value) (n c : Nat) => Go.Lib.run_convert_bytes_const (P := Tryz.prog) W 28 5 C n c Tryz.underlying28 Tryz.underlying5
  go_enter Tryz.func13, Tryz.ntmps13
  go_wp2_with (fail)
  refine cA.out.mono ?_
  rintro e_ x0 ⟨u, rfl, hO, hb_⟩
  obtain ⟨ua, uc, rfl⟩ : ∃ a c, u = .slice a 64 c := by
    obtain ⟨a, c, e⟩ := slen_own hO
    exact ⟨a, c, by rw [e, hl64.out]⟩
  replace hE := hE.keep hb_ rfl
  replace hw := Below.after hw hb_
  clear cA hb_ kc
  generalize w.alloc (.cells #[.int .u8 104, .int .u8 105] 5 (2, 3)) = w0 at *
  go_upto_region 4 with (fail)
  have hbd : Below x0.heap.size x0 x0.drew := below_drN (Below.refl _ _) 1
  replace hO := hO.keep hbd
  replace hE := hE.keep hbd rfl
  replace hw := Below.after hw hbd
  clear hbd
  refine wp_region_noPanic ?_
  refine wp_region_held (S := fun _ : World => True) (by kernel_rfl) ?_
  change wpAnyH _ _ _ _ _ _ _ _ (World.drew _)
  generalize x0.drew = x1 at *
  refine wpAnyH_two (j := 0) (k := 1) (fuel := 8) (by kernel_rfl) rfl rfl (by kernel_rfl) (by kernel_rfl) (fun K_ hK_ => ?_) (fun K_ hK_ => ?_)
  · refine wp_val_op (.slice (some ⟨x1.heap.size, 0, none⟩) 60 60) (w' := x1.alloc (.cells (irow .u8 (zr 60)) 5)) (hx_make 28 _ _ rfl 60 rfl rfl x1 _ _ (make_lc 60 60 (Nat.le_refl _) (by decide) x1)) ?_
    have RH := hp1_0 x1 (.cells (irow .u8 (zr 60)) 5)
    have hb_ : Below x1.heap.size x1 (x1.alloc (.cells (irow .u8 (zr 60)) 5)) := (Below.refl _ _).alloc (Nat.le_refl _) _
    replace hO := hO.keep hb_
    replace hE := hE.keep hb_ rfl
    replace hw := Below.after hw hb_
    clear hb_
    refine hK_ _ _ trivial ?_
    simp only [Act.put, List.getElem_toArray, List.getElem_cons_zero, List.setIfInBounds_toArray, List.set_cons_succ, List.set_cons_zero]
    clear hK_
    generalize x1.alloc (.cells (irow .u8 (zr 60)) 5) = m1 at *
    generalize x1.heap.size = gh at *
    refine wpAnyH_one (k := 1) (fuel := 7) (by kernel_rfl) rfl (by kernel_rfl) (fun K_ hK_ => ?_)
    refine wp_val_op (.slice (some ⟨m1.heap.size, 0, none⟩) 80 80) (w' := m1.alloc (.cells (irow .u8 (zr 80)) 5)) (hx_make 28 _ _ rfl 80 rfl rfl m1 _ _ (make_lc 80 80 (Nat.le_refl _) (by decide) m1)) ?_
    have RB := hp1_0 m1 (.cells (irow .u8 (zr 80)) 5)
    have hb_ : Below m1.heap.size m1 (m1.alloc (.cells (irow .u8 (zr 80)) 5)) := (Below.refl _ _).alloc (Nat.le_refl _) _
    replace hO := hO.keep hb_
    replace RH := keep hb_ RH
    replace hE := hE.keep hb_ rfl
    replace hw := Below.after hw hb_
    clear hb_
    refine hK_ _ _ trivial ?_
    simp only [Act.put, List.getElem_toArray, List.getElem_cons_succ, List.getElem_cons_zero, List.setIfInBounds_toArray, List.set_cons_succ, List.set_cons_zero]
    clear hK_
    generalize m1.alloc (.cells (irow .u8 (zr 80)) 5) = m2 at *
    generalize m1.heap.size = gb_ at *
    refine wpAnyH_take (i := 2) (v := .agg (evl 1 n16 (.slice (some ⟨gh, 0, none⟩) 60 60) (.slice (some ⟨gb_, 0, none⟩) 80 80))) rfl (by kernel_rfl) (by kernel_rfl) (by kernel_rfl) (fun _ _ _ h => h) (Or.inl ⟨by rfl, ?y1⟩) (trivial) ?r1
    case y1 =>
      intro w_ hS_
      simp only [List.getElem_toArray, List.getElem_cons_succ, List.getElem_cons_zero]
      exact run_build_op 48 _ rfl [(0, .int .i64 1), (2, .slice (some ⟨gh, 0, none⟩) 60 60), (3, .slice (some ⟨gb_, 0, none⟩) 80 80)] rfl _ (builtE3 1 _ 60 60 _ 80 80)
    simp only [Act.put, List.getElem_toArray, List.getElem_cons_succ, List.getElem_cons_zero, List.setIfInBounds_toArray, List.set_cons_succ, List.set_cons_zero]
    refine wpAnyH_one (k := 3) (fuel := 5) (by kernel_rfl) rfl (by kernel_rfl) (fun K_ hK_ => ?_)
    rw [zr_z60] at RH
    rw [zr_z80] at RB
    have cP := a_PackE1 n16 n16_len (some ⟨gh, 0, none⟩) 60 60 (some ⟨gb_, 0, none⟩) 80 80 z60 z80 m2 hE (row_bysB RH rfl (by decide) 60) (row_bysB RB rfl (by decide) 80) rfl rfl (by decide) (by decide)
    rw [pk_live] at cP
    refine wp_call_ex (R := fun v w' => ∃ u, v = .tuple #[u, .nilIface] ∧ Own w' m2.heap.size u (eout (efs 1 n16 z60 z80)) ∧ Below m2.heap.size m2 w') (by kernel_rfl) (cP.mono (fun e w' h => (by obtain ⟨⟨u, e1, e2⟩, e3⟩ := h; exact ⟨_, e1, u, rfl, e2, e3⟩))) (fun v_ m3 hX_ => ?_)
    obtain ⟨up, rfl, hU, hb_⟩ := hX_
    clear cP
    replace hO := hO.keep hb_
    replace RH := keep hb_ RH
    replace RB := keep hb_ RB
    replace hE := hE.keep hb_ rfl
    replace hw := Below.after hw hb_
    clear hb_ RH RB
    refine hK_ _ _ trivial ?_
    simp only [Act.put, List.getElem_toArray, List.getElem_cons_succ, List.getElem_cons_zero, List.setIfInBounds_toArray, List.set_cons_succ, List.set_cons_zero]
    clear hK_
    refine wpAnyH_take (i := 4) (v := ?v2) rfl (by kernel_rfl) (by kernel_rfl) (by kernel_rfl) (fun _ _ _ h => h) (Or.inl ⟨by rfl, ?y2⟩) (trivial) ?r2
    case y2 =>
      intro w_ hS_
      go_simp
      try with_reducible rfl
    simp only [Act.put, List.getElem_toArray, List.getElem_cons_succ, List.getElem_cons_zero, List.setIfInBounds_toArray, List.set_cons_succ, List.set_cons_zero]
    refine wpAnyH_take (i := 5) (v := ?v3) rfl (by kernel_rfl) (by kernel_rfl) (by kernel_rfl) (fun _ _ _ h => h) (Or.inl ⟨by rfl, ?y3⟩) (trivial) ?r3
    case y3 =>
      intro w_ hS_
      go_simp
      try with_reducible rfl
    simp only [Act.put, List.getElem_toArray, List.getElem_cons_succ, List.getElem_cons_zero, List.setIfInBounds_toArray, List.set_cons_succ, List.set_cons_zero]
    refine wpAnyH_take (i := 6) (v := ?v4) rfl (by kernel_rfl) (by kernel_rfl) (by kernel_rfl) (fun _ _ _ h => h) (Or.inl ⟨by rfl, ?y4⟩) (trivial) ?r4
    case y4 =>
      intro w_ hS_
      go_simp
      try with_reducible rfl
    simp only [Act.put, List.getElem_toArray, List.getElem_cons_succ, List.getElem_cons_zero, List.setIfInBounds_toArray, List.set_cons_succ, List.set_cons_zero]
    refine wpAnyH_take (i := 7) (v := ?v5) rfl (by kernel_rfl) (by kernel_rfl) (by kernel_rfl) (fun _ _ _ h => h) (Or.inl ⟨by rfl, ?y5⟩) (trivial) ?r5
    case y5 =>
      intro w_ hS_
      go_simp
      try with_reducible rfl
    simp only [Act.put, List.getElem_toArray, List.getElem_cons_succ, List.getElem_cons_zero, List.setIfInBounds_toArray, List.set_cons_succ, List.set_cons_zero]
    refine wpAnyH_take (i := 8) (v := ?v6) rfl (by kernel_rfl) (by kernel_rfl) (by kernel_rfl) (fun _ _ _ h => h) (Or.inl ⟨by rfl, ?y6⟩) (trivial) ?r6
    case y6 =>
      intro w_ hS_
      go_simp
      try with_reducible rfl
    simp only [Act.put, List.getElem_toArray, List.getElem_cons_succ, List.getElem_cons_zero, List.setIfInBounds_toArray, List.set_cons_succ, List.set_cons_zero]
    refine wpAnyH_done (by kernel_rfl) ?_ _
    refine NoPanic.normal ?_
    obtain ⟨pa, pc, rfl⟩ : ∃ pa pc, up = .slice pa 164 pc := by
      obtain ⟨a, c, e⟩ := slen_own hU
      exact ⟨a, c, by rw [e, hlen.out]⟩
    have hcp := own_cap hU
    have hUb := hU.bysB (by rw [hlen.out]; decide)
    have cQ := hide (a_ParseThere (v := 1) (hd := z60) (bd := z80) rfl n16_len pk_live (.slice pa 164 pc) m3 hUb hcp)
    clear hcp hUb
    go_wp2_with (fail)
    refine cQ.out.mono ?_
    rintro e_ p1 ⟨⟨ha, hc, ba, bc, rfl, _, _⟩, hb_⟩
    replace hO := hO.keep hb_
    replace hw := Below.after hw hb_
    clear cQ hb_ hE hU
    have z_ := hp1_0 p1 (.cells (evl 0 n16 (.slice none 0 0) (.slice none 0 0)) 48)
    go_wp2_with (first | (refine wpList_alloc rfl 48 rfl (evl 0 n16 (.slice none 0 0) (.slice none 0 0)) zEnv ?_) | (refine wpList_store_row rfl 48 _ _ rfl p1.heap.size (evl 1 n16 (.slice ha 60 hc) (.slice ba 80 bc)) rfl rfl 48 _ z_ (evl_info _ _ n16_len _ _) (by rw [evl_size _ _ n16_len, evl_size _ _ n16_len]) (evl_one _ _ _ _ _ _ _ _) ?_; refine wpList_stay ?_) | fail)
    unfold WpStay
    try simp only [Act.put, List.setIfInBounds_toArray, List.set_cons_succ, List.set_cons_zero]
    have RO := setRow_heap (p1.alloc (.cells (evl 0 n16 (.slice none 0 0) (.slice none 0 0)) 48)) p1.heap.size _ (evl 1 n16 (.slice ha 60 hc) (.slice ba 80 bc)) _ _ z_
    have hb_ : Below p1.heap.size p1 ((p1.alloc (.cells (evl 0 n16 (.slice none 0 0) (.slice none 0 0)) 48)).setRow p1.heap.size (evl 1 n16 (.slice ha 60 hc) (.slice ba 80 bc))) := below_setRow ((Below.refl _ _).alloc (Nat.le_refl _) _) (Nat.le_refl _) _
    clear z_
    replace hO := hO.keep hb_
    replace hw := Below.after hw hb_
    clear hb_
    generalize (p1.alloc (.cells (evl 0 n16 (.slice none 0 0) (.slice none 0 0)) 48)).setRow p1.heap.size (evl 1 n16 (.slice ha 60 hc) (.slice ba 80 bc)) = p2 at *
    generalize p1.heap.size = gO at *
    have cU := hide (a_Unpad 1 1 rfl (by decide) LB p2 (.slice ua 64 uc) (hO.bysB (by rw [hl64.out]; decide)) (own_cap hO))
    rw [hup.out, hur.out] at cU
    go_wp2_with (fail)
    refine cU.out.mono ?_
    rintro e_ p3 ⟨pl, rfl, hQ, hb_⟩
    obtain ⟨qa, qc, rfl⟩ : ∃ a c, pl = .slice a 2 c := slen_own hQ
    have cv := conv_bys10 hQ.bys
    rw [show strOfNums (bl [104#8, 105#8]) = { data := #[104, 105] } by decide] at cv
    have lO := lt_of_row RO
    replace RO := keep hb_ RO
    replace hw := Below.after hw hb_
    clear cU hb_ hO hQ
    have c18 : p3.cell? ⟨gO, 18, none⟩ = some (.slice ba 80 bc) := by rw [cell_of_row _ _ _ _ _ _ RO]; exact evl_b _ _ n16_len _ _
    have n1 := eql_nilE
    go_wp2_with (fail)
    go_ret
    exact ⟨rfl, hw⟩
  · refine wp_val_op (.slice (some ⟨x1.heap.size, 0, none⟩) 80 80) (w' := x1.alloc (.cells (irow .u8 (zr 80)) 5)) (hx_make 28 _ _ rfl 80 rfl rfl x1 _ _ (make_lc 80 80 (Nat.le_refl _) (by decide) x1)) ?_
    have RB := hp1_0 x1 (.cells (irow .u8 (zr 80)) 5)
    have hb_ : Below x1.heap.size x1 (x1.alloc (.cells (irow .u8 (zr 80)) 5)) := (Below.refl _ _).alloc (Nat.le_refl _) _
    replace hO := hO.keep hb_
    replace hE := hE.keep hb_ rfl
    replace hw := Below.after hw hb_
    clear hb_
    refine hK_ _ _ trivial ?_
    simp only [Act.put, List.getElem_toArray, List.getElem_cons_succ, List.getElem_cons_zero, List.setIfInBounds_toArray, List.set_cons_succ, List.set_cons_zero]
    clear hK_
    generalize x1.alloc (.cells (irow .u8 (zr 80)) 5) = m4 at *
    generalize x1.heap.size = gb_ at *
    refine wpAnyH_one (k := 0) (fuel := 7) (by kernel_rfl) rfl (by kernel_rfl) (fun K_ hK_ => ?_)
    refine wp_val_op (.slice (some ⟨m4.heap.size, 0, none⟩) 60 60) (w' := m4.alloc (.cells (irow .u8 (zr 60)) 5)) (hx_make 28 _ _ rfl 60 rfl rfl m4 _ _ (make_lc 60 60 (Nat.le_refl _) (by decide) m4)) ?_
    have RH := hp1_0 m4 (.cells (irow .u8 (zr 60)) 5)
    have hb_ : Below m4.heap.size m4 (m4.alloc (.cells (irow .u8 (zr 60)) 5)) := (Below.refl _ _).alloc (Nat.le_refl _) _
    replace hO := hO.keep hb_
    replace RB := keep hb_ RB
    replace hE := hE.keep hb_ rfl
    replace hw := Below.after hw hb_
    clear hb_
    refine hK_ _ _ trivial ?_
    simp only [Act.put, List.getElem_toArray, List.getElem_cons_zero, List.setIfInBounds_toArray, List.set_cons_succ, List.set_cons_zero]
    clear hK_
    generalize m4.alloc (.cells (irow .u8 (zr 60)) 5) = m5 at *
    generalize m4.heap.size = gh at *
    refine wpAnyH_take (i := 2) (v := .agg (evl 1 n16 (.slice (some ⟨gh, 0, none⟩) 60 60) (.slice (some ⟨gb_, 0, none⟩) 80 80))) rfl (by kernel_rfl) (by kernel_rfl) (by kernel_rfl) (fun _ _ _ h => h) (Or.inl ⟨by rfl, ?y7⟩) (trivial) ?r7
    case y7 =>
      intro w_ hS_
      simp only [List.getElem_toArray, List.getElem_cons_succ, List.getElem_cons_zero]
      exact run_build_op 48 _ rfl [(0, .int .i64 1), (2, .slice (some ⟨gh, 0, none⟩) 60 60), (3, .slice (some ⟨gb_, 0, none⟩) 80 80)] rfl _ (builtE3 1 _ 60 60 _ 80 80)
    simp only [Act.put, List.getElem_toArray, List.getElem_cons_succ, List.getElem_cons_zero, List.setIfInBounds_toArray, List.set_cons_succ, List.set_cons_zero]
    refine wpAnyH_one (k := 3) (fuel := 5) (by kernel_rfl) rfl (by kernel_rfl) (fun K_ hK_ => ?_)
    rw [zr_z60] at RH
    rw [zr_z80] at RB
    have cP := a_PackE1 n16 n16_len (some ⟨gh, 0, none⟩) 60 60 (some ⟨gb_, 0, none⟩) 80 80 z60 z80 m5 hE (row_bysB RH rfl (by decide) 60) (row_bysB RB rfl (by decide) 80) rfl rfl (by decide) (by decide)
    rw [pk_live] at cP
    refine wp_call_ex (R := fun v w' => ∃ u, v = .tuple #[u, .nilIface] ∧ Own w' m5.heap.size u (eout (efs 1 n16 z60 z80)) ∧ Below m5.heap.size m5 w') (by kernel_rfl) (cP.mono (fun e w' h => (by obtain ⟨⟨u, e1, e2⟩, e3⟩ := h; exact ⟨_, e1, u, rfl, e2, e3⟩))) (fun v_ m6 hX_ => ?_)
    obtain ⟨up, rfl, hU, hb_⟩ := hX_
    clear cP
    replace hO := hO.keep hb_
    replace RB := keep hb_ RB
    replace RH := keep hb_ RH
    replace hE := hE.keep hb_ rfl
    replace hw := Below.after hw hb_
    clear hb_ RH RB
    refine hK_ _ _ trivial ?_
    simp only [Act.put, List.getElem_toArray, List.getElem_cons_succ, List.getElem_cons_zero, List.setIfInBounds_toArray, List.set_cons_succ, List.set_cons_zero]
    clear hK_
    refine wpAnyH_take (i := 4) (v := ?v8) rfl (by kernel_rfl) (by kernel_rfl) (by kernel_rfl) (fun _ _ _ h => h) (Or.inl ⟨by rfl, ?y8⟩) (trivial) ?r8
    case y8 =>
      intro w_ hS_
      go_simp
      try with_reducible rfl
    simp only [Act.put, List.getElem_toArray, List.getElem_cons_succ, List.getElem_cons_zero, List.setIfInBounds_toArray, List.set_cons_succ, List.set_cons_zero]
    refine wpAnyH_take (i := 5) (v := ?v9) rfl (by kernel_rfl) (by kernel_rfl) (by kernel_rfl) (fun _ _ _ h => h) (Or.inl ⟨by rfl, ?y9⟩) (trivial) ?r9
    case y9 =>
      intro w_ hS_
      go_simp
      try with_reducible rfl
    simp only [Act.put, List.getElem_toArray, List.getElem_cons_succ, List.getElem_cons_zero, List.setIfInBounds_toArray, List.set_cons_succ, List.set_cons_zero]
    refine wpAnyH_take (i := 6) (v := ?v10) rfl (by kernel_rfl) (by kernel_rfl) (by kernel_rfl) (fun _ _ _ h => h) (Or.inl ⟨by rfl, ?y10⟩) (trivial) ?r10
    case y10 =>
      intro w_ hS_
      go_simp
      try with_reducible rfl
    simp only [Act.put, List.getElem_toArray, List.getElem_cons_succ, List.getElem_cons_zero, List.setIfInBounds_toArray, List.set_cons_succ, List.set_cons_zero]
    refine wpAnyH_take (i := 7) (v := ?v11) rfl (by kernel_rfl) (by kernel_rfl) (by kernel_rfl) (fun _ _ _ h => h) (Or.inl ⟨by rfl, ?y11⟩) (trivial) ?r11
    case y11 =>
      intro w_ hS_
      go_simp
      try with_reducible rfl
    simp only [Act.put, List.getElem_toArray, List.getElem_cons_succ, List.getElem_cons_zero, List.setIfInBounds_toArray, List.set_cons_succ, List.set_cons_zero]
    refine wpAnyH_take (i := 8) (v := ?v12) rfl (by kernel_rfl) (by kernel_rfl) (by kernel_rfl) (fun _ _ _ h => h) (Or.inl ⟨by rfl, ?y12⟩) (trivial) ?r12
    case y12 =>
      intro w_ hS_
      go_simp
      try with_reducible rfl
    simp only [Act.put, List.getElem_toArray, List.getElem_cons_succ, List.getElem_cons_zero, List.setIfInBounds_toArray, List.set_cons_succ, List.set_cons_zero]
    refine wpAnyH_done (by kernel_rfl) ?_ _
    refine NoPanic.normal ?_
    obtain ⟨pa, pc, rfl⟩ : ∃ pa pc, up = .slice pa 164 pc := by
      obtain ⟨a, c, e⟩ := slen_own hU
      exact ⟨a, c, by rw [e, hlen.out]⟩
    have hcp := own_cap hU
    have hUb := hU.bysB (by rw [hlen.out]; decide)
    have cQ := hide (a_ParseThere (v := 1) (hd := z60) (bd := z80) rfl n16_len pk_live (.slice pa 164 pc) m6 hUb hcp)
    clear hcp hUb
    go_wp2_with (fail)
    refine cQ.out.mono ?_
    rintro e_ p1 ⟨⟨ha, hc, ba, bc, rfl, _, _⟩, hb_⟩
    replace hO := hO.keep hb_
    replace hw := Below.after hw hb_
    clear cQ hb_ hE hU
    have z_ := hp1_0 p1 (.cells (evl 0 n16 (.slice none 0 0) (.slice none 0 0)) 48)
    go_wp2_with (first | (refine wpList_alloc rfl 48 rfl (evl 0 n16 (.slice none 0 0) (.slice none 0 0)) zEnv ?_) | (refine wpList_store_row rfl 48 _ _ rfl p1.heap.size (evl 1 n16 (.slice ha 60 hc) (.slice ba 80 bc)) rfl rfl 48 _ z_ (evl_info _ _ n16_len _ _) (by rw [evl_size _ _ n16_len, evl_size _ _ n16_len]) (evl_one _ _ _ _ _ _ _ _) ?_; refine wpList_stay ?_) | fail)
    unfold WpStay
    try simp only [Act.put, List.setIfInBounds_toArray, List.set_cons_succ, List.set_cons_zero]
    have RO := setRow_heap (p1.alloc (.cells (evl 0 n16 (.slice none 0 0) (.slice none 0 0)) 48)) p1.heap.size _ (evl 1 n16 (.slice ha 60 hc) (.slice ba 80 bc)) _ _ z_
    have hb_ : Below p1.heap.size p1 ((p1.alloc (.cells (evl 0 n16 (.slice none 0 0) (.slice none 0 0)) 48)).setRow p1.heap.size (evl 1 n16 (.slice ha 60 hc) (.slice ba 80 bc))) := below_setRow ((Below.refl _ _).alloc (Nat.le_refl _) _) (Nat.le_refl _) _
    clear z_
    replace hO := hO.keep hb_
    replace hw := Below.after hw hb_
    clear hb_
    generalize (p1.alloc (.cells (evl 0 n16 (.slice none 0 0) (.slice none 0 0)) 48)).setRow p1.heap.size (evl 1 n16 (.slice ha 60 hc) (.slice ba 80 bc)) = p2 at *
    generalize p1.heap.size = gO at *
    have cU := hide (a_Unpad 1 1 rfl (by decide) LB p2 (.slice ua 64 uc) (hO.bysB (by rw [hl64.out]; decide)) (own_cap hO))
    rw [hup.out, hur.out] at cU
    go_wp2_with (fail)
    refine cU.out.mono ?_
    rintro e_ p3 ⟨pl, rfl, hQ, hb_⟩
    obtain ⟨qa, qc, rfl⟩ : ∃ a c, pl = .slice a 2 c := slen_own hQ
    have cv := conv_bys10 hQ.bys
    rw [show strOfNums (bl [104#8, 105#8]) = { data := #[104, 105] } by decide] at cv
    have lO := lt_of_row RO
    replace RO := keep hb_ RO
    replace hw := Below.after hw hb_
    clear cU hb_ hO hQ
    have c18 : p3.cell? ⟨gO, 18, none⟩ = some (.slice ba 80 bc) := by rw [cell_of_row _ _ _ _ _ _ RO]; exact evl_b _ _ n16_len _ _
    have n1 := eql_nilE
    go_wp2_with (fail)
    go_ret
    exact ⟨rfl, hw⟩
end Go.Proofs.YtleeadbceljfbaaGreatDoor
