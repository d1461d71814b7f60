import Derived.Test.YtjoohgkgkabbpaaGreatDoorXQb4
import Derived.Test.YtjoohgkgkabbpaaGreatDoorXJrh
import Derived.Test.YtjoohgkgkabbpaaGreatDoorXJrt
import Derived.OwnWalk
import Derived.Deep.CutRange
import Derived.Deep.RegionHeld3
import Derived.Deep.MidRow
namespace Go.Proofs.YtjoohgkgkabbpaaGreatDoor
set_option maxRecDepth 100000
open Go Go.RowKit Go.Sort
attribute [local go_sem] setCell_drewN alloc_drewN
theorem run_load_rng {P : Program} {o : Oper} {a : Act} {w : World} (ty : TypeId) (x : Operand) (ho : o.op = .load ty x) (g off : Nat) (hx : a.eval x = .pointer (some ⟨g, off, none⟩)) (cs : List Value) (d : TypeDesc) (hr : w.rangeAt g off cs)
 (hu : P.underlying ty = some d) (hd : d.isRow = true) (hi : (P.info? ty).map (·.size) = some cs.length) : (execOp a.eval o).run P w = .ok (.value (.agg cs.toArray)) w := by
 unfold execOp
 simp only [ho, hx, Instr.loadAt, Instr.sureAddr, Sem.run_bind, Sem.run_pure, Result.andThen_ok, run_loadVar_mid w g off ty cs d hr hu hd hi]
theorem bVal14 (cs : Array Value) (W : World) : (Instr.box 78 (.agg cs)).run Tryz.prog W = .ok (.pointer (some ⟨W.heap.size, 0, none⟩)) (W.alloc (.cells cs 78)) := by kernel_rfl
theorem zKy14 (W : World) : (Instr.alloc 25 true (.tuple #[])).run Tryz.prog W = .ok (.pointer (some ⟨W.heap.size, 0, none⟩)) (W.alloc (.cells (irow .u8 (zr 32)) 25)) := by kernel_rfl
theorem builtF70 : Tryz.prog.built 35 [(1, .int .i64 70), (2, .int .i64 140)] = some #[.int .i64 0, .int .i64 70, .int .i64 140] := by kernel_rfl
theorem builtF00 : Tryz.prog.built 35 [] = some #[.int .i64 0, .int .i64 0, .int .i64 0] := by kernel_rfl
set_option maxRecDepth 100000 in
set_option maxHeartbeats 16000000 in
theorem r_key14 (n : Int) (g c : Nat) (pv : Value) (x : List B) (hx : x.length = 32) (w : World) (hg : g < w.heap.size) (hr : w.rangeAt g 0 ((bl x).map (Value.int .u8))) : Calls Tryz.prog 38 #[.agg #[.int .u64 n, .slice (some ⟨g, 0, none⟩) 32 c, pv]] w fun e w' => e = .returned (.agg (irow .u8 (bl x))) ∧ Below w.heap.size w w' := by
 have R1 := hp3_0 w (.cells #[.int .u64 n, .slice (some ⟨g, 0, none⟩) 32 c, pv] 78) (.cells (irow .u8 (zr 32)) 25) (.cells (irow .u8 (zr 32)) 25)
 have R2 := hp3_1 w (.cells #[.int .u64 n, .slice (some ⟨g, 0, none⟩) 32 c, pv] 78) (.cells (irow .u8 (zr 32)) 25) (.cells (irow .u8 (zr 32)) 25)
 have R3 := hp3_2 w (.cells #[.int .u64 n, .slice (some ⟨g, 0, none⟩) 32 c, pv] 78) (.cells (irow .u8 (zr 32)) 25) (.cells (irow .u8 (zr 32)) 25)
 have hw : Below w.heap.size w (((w.alloc (.cells #[.int .u64 n, .slice (some ⟨g, 0, none⟩) 32 c, pv] 78)).alloc (.cells (irow .u8 (zr 32)) 25)).alloc (.cells (irow .u8 (zr 32)) 25)) := (((Below.refl _ _).alloc (Nat.le_refl _) _).alloc (by simp) _).alloc (by simp; omega) _
 have hl : (bl x).length = 32 := by rw [bl_len, hx]
 go_enter Tryz.func38, Tryz.ntmps38
 go_wp2_with (first | (refine wpList_box rfl 78 _ rfl _ rfl (bVal14 _) ?_) | (refine wpList_alloc rfl 25 rfl (irow .u8 (zr 32)) zKy14 ?_) | fail)
 try simp only [size_alloc1, Act.put, List.setIfInBounds_toArray, List.set_cons_succ, List.set_cons_zero]
 generalize (((w.alloc (.cells #[.int .u64 n, .slice (some ⟨g, 0, none⟩) 32 c, pv] 78)).alloc (.cells (irow .u8 (zr 32)) 25)).alloc (.cells (irow .u8 (zr 32)) 25)) = w1 at *
 have r0 : w1.heap[w.heap.size + 1 + 1]? = some (.cells (irow .u8 (mix (bl x) (zr 32) 0)) 25 (0, 0)) := by rw [mix_zero]; exact R3
 clear R3
 go_loopw [4] (fun i wr => ∃ k : Nat, k ≤ 32 ∧ i = .int .i64 k ∧ wr.heap[w.heap.size + 1 + 1]? = some (.cells (irow .u8 (mix (bl x) (zr 32) k)) 25 (0, 0)) ∧ wr.heap[w.heap.size]? = some (.cells #[.int .u64 n, .slice (some ⟨g, 0, none⟩) 32 c, pv] 78 (0, 0)) ∧ wr.heap[w.heap.size + 1]? = some (.cells (irow .u8 (zr 32)) 25 (0, 0)) ∧ Below w.heap.size w wr) (fun i _ => 32 - (intOf i).toNat)
 case atStart => exact ⟨0, by omega, rfl, r0, R1, R2, hw⟩
 case round =>
  clear r0 R1 R2 hw
  obtain ⟨k, hk, rfl, r0, R1, R2, hw⟩ := hrel
  have cS := cell_of_row _ _ 1 _ _ _ R1
  replace cS : wr.cell? ⟨w.heap.size, 1, none⟩ = some (.slice (some ⟨g, 0, none⟩) 32 c) := cS
  by_cases hlt : k < 32
  ·have hd : decide ((k : Int) < 32) = true := by simp; omega
   have hb2 : wr.cell? ⟨g, k, none⟩ = some (.int .u8 ((bl x).getD k 0)) := by
    rw [hw.cell (p := ⟨g, k, none⟩) hg]
    have := hr k (.int .u8 ((bl x).getD k 0)) (by rw [List.getElem?_map, List.getD_eq_getElem?_getD, List.getElem?_eq_getElem (by omega)]; rfl)
    rwa [Nat.zero_add] at this
   have hset := mix_set (bl x) (zr 32) k (by rw [hl, zr_len]) (by rw [zr_len]; exact hlt)
   have hml := mix_length (bl x) (zr 32) k (by rw [hl, zr_len]) (by rw [zr_len]; omega)
   rw [zr_len] at hml
   have cf := row_frozen r0 k
   have cc := irow_cell r0 (j := k) (by omega)
   have r2 := irow_set r0 k ((bl x).getD k 0)
   rw [hset] at r2
   have hw2 := hide (hw.setCell (show w.heap.size ≤ (⟨w.heap.size + 1 + 1, k, none⟩ : Addr).block from (by show w.heap.size ≤ w.heap.size + 1 + 1; omega)) (.int .u8 ((bl x).getD k 0)))
   have R12 := hide (heap_other (v := .int .u8 ((bl x).getD k 0)) (j := k) R1 (show w.heap.size ≠ w.heap.size + 1 + 1 by omega))
   have R22 := hide (heap_other (v := .int .u8 ((bl x).getD k 0)) (j := k) R2 (show w.heap.size + 1 ≠ w.heap.size + 1 + 1 by omega))
   replace r2 := hide r2
   clear r0 hw hset hml R1 R2
   generalize (bl x).getD k 0 = z at *
   generalize (mix (bl x) (zr 32) k).getD k 0 = y at *
   go_wp2_with (fail)
   refine ⟨⟨k + 1, by omega, by go_num, r2.out, R12.out, R22.out, hw2.out⟩, ?_⟩
   simp [intOf]; omega
  ·obtain rfl : k = 32 := by omega
   have hd : decide ((32 : Int) < 32) = false := by decide
   have em := mix_all (bl x) (zr 32) (by rw [hl, zr_len])
   rw [zr_len] at em
   rw [em] at r0
   have hK := infoKy (bl x) hl
   have RF := hide (setRow_heap wr (w.heap.size + 1) _ (irow .u8 (bl x)) _ _ R2)
   have hwF := hide (below_setRow hw (show w.heap.size ≤ w.heap.size + 1 by omega) (irow .u8 (bl x)))
   clear hw
   go_wp2_with (first | (refine wpList_load_want rfl 25 _ rfl (w.heap.size + 1 + 1) rfl 25 (irow .u8 (bl x)) (0, 0) _ r0 Tryz.underlying25 rfl hK ?_) | (refine wpList_store_row rfl 25 _ _ rfl (w.heap.size + 1) (irow .u8 (bl x)) rfl rfl 25 _ R2 hK (by rw [irow_size, irow_size, hl, zr_len]) (irow_one _ _) ?_) | fail)
   exact bodyPost_ret (v := .agg (irow .u8 (bl x))) (results_cell_row Tryz.results38 _ _ (w.heap.size + 1) _ _ _ _ rfl RF.out Tryz.underlying25 rfl hK) rfl ⟨rfl, hwF.out⟩
set_option maxRecDepth 100000 in
set_option maxHeartbeats 4000000 in
theorem r_can14 (i s o : List Int) (h : Bool) (hi : i.length = 32) (hs : s.length = 32) (ho : o.length = 32) (w : World) : Calls Tryz.prog 39 #[.agg (brow i s o h)] w fun e w' => e = .returned (.bool (h || decide (o = zr 32))) ∧ Below w.heap.size w w' := by
 have R0 := hp1_0 w (.cells (brow i s o h) 43)
 have hw : Below w.heap.size w (w.alloc (.cells (brow i s o h) 43)) := (Below.refl _ _).alloc (Nat.le_refl _) _
 have c_h : World.cell? _ ⟨w.heap.size, 96, none⟩ = some (.bool h) := (cell_of_row _ _ _ _ _ _ R0).trans (bn_h i s o h hi hs ho)
 have heq := fun W => eq_k o (zr 32) ho (zr_len 32) W
 have xo := bn_o i s o h hi hs ho
 generalize decide (o = zr 32) = D at *
 generalize brow i s o h = R at *
 go_enter Tryz.func39, Tryz.ntmps39
 go_upto_region 1 with (first | (refine wpList_box rfl 43 _ rfl _ rfl (box_brow _) ?_) | fail)
 try simp only [Act.put, List.setIfInBounds_toArray, List.set_cons_succ, List.set_cons_zero]
 generalize w.alloc (.cells R 43) = w1 at *
 cases h
 ·go_wp2_with (first | (refine wpList_load_part rfl 25 _ rfl (w.heap.size) 64 rfl 43 R (0, 0) (irow .u8 o) _ R0 xo Tryz.underlying25 rfl (infoKy o ho) ?_) | (refine wpList_build_want rfl 25 _ rfl [] rfl (irow .u8 (zr 32)) builtZk ?_) | fail)
  go_ret
  exact ⟨rfl, hw⟩
 ·repeat (first | go_skip | go_step)
  go_ret
  exact ⟨rfl, hw⟩
def RrB (d : List B) (e : Ending) : Prop := match par14 d with
 | none => e = .returned (.tuple #[.agg (pbn d), .agg #[.int .i64 0, .int .i64 0, .int .i64 0]])
 | some x => e = .returned (.tuple #[.agg (brow (zr 32) (zr 32) (zr 32) false), .agg (frw x)])
theorem builtB4r (i s o : List Int) (h : Bool) (hi : i.length = 32) (hs : s.length = 32) (ho : o.length = 32) : Tryz.prog.built 43 [(0, .agg (irow .u8 i)), (1, .agg (irow .u8 s)), (2, .agg (irow .u8 o)), (3, .bool h)] = some (brow i s o h) := by
 obtain ⟨i0, i1, i2, i3, i4, i5, i6, i7, i8, i9, i10, i11, i12, i13, i14, i15, i16, i17, i18, i19, i20, i21, i22, i23, i24, i25, i26, i27, i28, i29, i30, i31, rfl⟩ := len32 i hi
 obtain ⟨s0, s1, s2, s3, s4, s5, s6, s7, s8, s9, s10, s11, s12, s13, s14, s15, s16, s17, s18, s19, s20, s21, s22, s23, s24, s25, s26, s27, s28, s29, s30, s31, rfl⟩ := len32 s hs
 obtain ⟨o0, o1, o2, o3, o4, o5, o6, o7, o8, o9, o10, o11, o12, o13, o14, o15, o16, o17, o18, o19, o20, o21, o22, o23, o24, o25, o26, o27, o28, o29, o30, o31, rfl⟩ := len32 o ho
 kernel_rfl
set_option maxRecDepth 100000 in
set_option maxHeartbeats 16000000 in
theorem r_Parse14 (d : List B) (b : Value) (w : World) (hB : BysB w b d) (hcap : ∀ a l c, b = .slice a l c → l ≤ c) : Calls Tryz.prog 16 #[b] w fun e w' => RrB d e ∧ Below w.heap.size w w' := by
 have R0 := hp2_0 w (.cells (brow (zr 32) (zr 32) (zr 32) false) 43) (.cells #[.int .i64 0, .int .i64 0, .int .i64 0] 35)
 have R3 := hp2_1 w (.cells (brow (zr 32) (zr 32) (zr 32) false) 43) (.cells #[.int .i64 0, .int .i64 0, .int .i64 0] 35)
 have hw : Below w.heap.size w ((w.alloc (.cells (brow (zr 32) (zr 32) (zr 32) false) 43)).alloc (.cells #[.int .i64 0, .int .i64 0, .int .i64 0] 35)) := ((Below.refl _ _).alloc (Nat.le_refl _) _).alloc (by simp) _
 replace hB := hB.keep hw
 go_enter Tryz.func16, Tryz.ntmps16
 go_upto_region 1 with (first | (refine wpList_alloc rfl 43 rfl (brow (zr 32) (zr 32) (zr 32) false) zBnA ?_) | fail)
 try simp only [size_alloc1, Act.put, List.setIfInBounds_toArray, List.set_cons_succ, List.set_cons_zero]
 generalize (w.alloc (.cells (brow (zr 32) (zr 32) (zr 32) false) 43)).alloc (.cells #[.int .i64 0, .int .i64 0, .int .i64 0] 35) = w1 at *
 go_wp2_with (fail)
 refine (r_shape14 w1).mono ?_
 rintro e_ x2 ⟨sv, rfl, ⟨q, rfl, hq1, hC⟩, hb_⟩
 have l0_ := lt_of_row R3
 have szc := hb_.size
 replace R0 := keep hb_ R0
 replace R3 := keep hb_ R3
 replace hB := hB.keep hb_
 replace hw := Below.after hw hb_
 clear hb_
 have cDe := hide (r_DecodeF bsl_flat d b x2 hC hB hcap)
 clear hC
 go_wp2_with (fail)
 refine cDe.out.mono ?_
 rintro e_ w3 ⟨hD, hb_⟩
 have sz2 := hw.size
 have sz3 := hb_.size
 replace R0 := keep hb_ R0
 replace R3 := keep hb_ R3
 replace hw := Below.after hw hb_
 clear hb_ cDe hB hcap
 obtain ⟨R, hR⟩ : ∃ R, dec8 bsl d 0 = R := ⟨_, rfl⟩
 unfold DcE at hD
 rw [hR] at hD
 cases R with
 | some x =>
  simp only at hD
  subst hD
  have hpf : Hid (par14 d = some x) := hide (by unfold par14; rw [hR])
  have hwy := dec8_why hR
  have bE : (x.why != 0) = true := by simpa using hwy
  have bE2 : (x.why == 0) = false := by simpa using hwy
  clear hR
  unfold frw
  have rZ := hp2_0 w3 (.cells #[.int .u64 0, .slice none 0 0, .slice none 0 0] 78) (.cells #[.int .i64 0, .int .i64 0, .int .i64 0] 35)
  have rF := hp2_1 w3 (.cells #[.int .u64 0, .slice none 0 0, .slice none 0 0] 78) (.cells #[.int .i64 0, .int .i64 0, .int .i64 0] 35)
  have oneA : (#[Value.int .u64 0, .slice none 0 0, .slice none 0 0] : Array Value).all (·.oneCell') = true := by simp [Value.oneCell']
  have oneE : (#[Value.int .i64 x.line, .int .i64 x.at_, .int .i64 x.why] : Array Value).all (·.oneCell') = true := by simp [Value.oneCell']
  have rF2 := (setRow_other ((w3.alloc (.cells #[.int .u64 0, .slice none 0 0, .slice none 0 0] 78)).alloc (.cells #[.int .i64 0, .int .i64 0, .int .i64 0] 35)) w3.heap.size (w3.heap.size + 1) #[.int .u64 0, .slice none 0 0, .slice none 0 0] (by omega)).trans rF
  have rV2 := setRow_heap _ w3.heap.size _ #[.int .u64 0, .slice none 0 0, .slice none 0 0] _ _ rZ
  have rV := (setRow_other (((w3.alloc (.cells #[.int .u64 0, .slice none 0 0, .slice none 0 0] 78)).alloc (.cells #[.int .i64 0, .int .i64 0, .int .i64 0] 35)).setRow w3.heap.size #[.int .u64 0, .slice none 0 0, .slice none 0 0]) (w3.heap.size + 1) w3.heap.size #[.int .i64 x.line, .int .i64 x.at_, .int .i64 x.why] (by omega)).trans rV2
  have rE := setRow_heap _ (w3.heap.size + 1) _ #[.int .i64 x.line, .int .i64 x.at_, .int .i64 x.why] _ _ rF2
  have hb5 : Below w3.heap.size w3 ((((w3.alloc (.cells #[.int .u64 0, .slice none 0 0, .slice none 0 0] 78)).alloc (.cells #[.int .i64 0, .int .i64 0, .int .i64 0] 35)).setRow w3.heap.size #[.int .u64 0, .slice none 0 0, .slice none 0 0]).setRow (w3.heap.size + 1) #[.int .i64 x.line, .int .i64 x.at_, .int .i64 x.why]) := below_setRow (below_setRow (((Below.refl _ _).alloc (Nat.le_refl _) _).alloc (by simp) _) (Nat.le_refl _) #[.int .u64 0, .slice none 0 0, .slice none 0 0]) (by omega) #[.int .i64 x.line, .int .i64 x.at_, .int .i64 x.why]
  have l03 := lt_of_row R0
  have l33 := lt_of_row R3
  replace R0 := keep hb5 R0
  replace R3 := keep hb5 R3
  replace hw := Below.after hw hb5
  have lV3 := lt_of_row rV
  have lE3 := lt_of_row rE
  clear rV2
  have A1 := hide R0
  have A2 := hide hw
  have A3 := hide R3
  have A7 := hide rE
  have A8 := hide lE3
  have cW := cell_of_row _ _ 2 _ _ _ rE
  clear R0 hw R3 rE lV3 lE3 rV hb5
  go_upto_region 2 with (first | (refine wpList_store_row rfl 78 _ _ rfl w3.heap.size #[.int .u64 0, .slice none 0 0, .slice none 0 0] rfl rfl 78 _ rZ infoV rfl oneA ?_) | (refine wpList_store_row rfl 35 _ _ rfl (w3.heap.size + 1) #[.int .i64 x.line, .int .i64 x.at_, .int .i64 x.why] rfl rfl 35 _ rF2 infoFt rfl oneE ?_) | fail)
  simp only [Act.put]
  clear rZ rF rF2
  generalize (((w3.alloc (.cells #[.int .u64 0, .slice none 0 0, .slice none 0 0] 78)).alloc (.cells #[.int .i64 0, .int .i64 0, .int .i64 0] 35)).setRow w3.heap.size #[.int .u64 0, .slice none 0 0, .slice none 0 0]).setRow (w3.heap.size + 1) #[.int .i64 x.line, .int .i64 x.at_, .int .i64 x.why] = w6 at *
  have R0 := A1.out
  have hw := A2.out
  have R3 := A3.out
  have RE := A7.out
  have lE6 := A8.out
  clear A1 A2 A3 A7 A8
  generalize hgE : w3.heap.size + 1 = gE at *
  have hgE2 : w.heap.size + 1 < gE := by omega
  clear hgE
  go_upto_region 3 with (fail)
  clear cW
  have hbd : Below w6.heap.size w6 w6.drew := below_drN (Below.refl _ _) 1
  replace RE := keep hbd RE
  replace R0 := keep hbd R0
  replace R3 := keep hbd R3
  replace hw := Below.after hw hbd
  clear hbd
  refine wp_region_held (S := fun W : World => W.heap[gE]? = some (.cells #[.int .i64 x.line, .int .i64 x.at_, .int .i64 x.why] 35 (0, 0))) (by kernel_rfl) ?_
  change wpAnyH _ _ _ _ _ _ _ _ (World.drew _)
  generalize w6.drew = z1 at *
  refine wpAnyH_take (i := 0) (v := .agg (brow (zr 32) (zr 32) (zr 32) false)) rfl (by kernel_rfl) (by kernel_rfl) (by kernel_rfl) (fun _ _ _ h => h) (Or.inl ⟨by rfl, ?y214⟩) RE ?r214
  case y214 =>
   intro w_ hS_
   simp only [List.getElem_toArray, List.getElem_cons_zero]
   exact run_build_op 43 _ rfl [] rfl _ builtB0
  simp only [Act.put, List.getElem_toArray, List.getElem_cons_zero, List.setIfInBounds_toArray, List.set_cons_succ, List.set_cons_zero]
  refine wpAnyH_take (i := 1) (v := .agg #[.int .i64 x.line, .int .i64 x.at_, .int .i64 x.why]) rfl (by kernel_rfl) (by kernel_rfl) (by kernel_rfl) (fun _ _ _ h => h) (yieldsIf_load_mid (by rfl) 35 _ rfl gE 0 rfl [.int .i64 x.line, .int .i64 x.at_, .int .i64 x.why] _ (fun _ h => range_row ⟨_, h⟩) Tryz.underlying35 rfl infoFt) RE ?_
  simp only [Act.put, List.getElem_toArray, List.getElem_cons_succ, List.getElem_cons_zero, List.setIfInBounds_toArray, List.set_cons_succ, List.set_cons_zero]
  refine wpAnyH_one (k := 2) (fuel := 1) (by kernel_rfl) rfl (by kernel_rfl) (fun K_ hK_ => ?_)
  refine wp_store_row 43 _ _ rfl (w.heap.size) (brow (zr 32) (zr 32) (zr 32) false) rfl rfl 43 _ R0 (info_brow _ _ _ _ (zr_len 32) (zr_len 32) (zr_len 32)) rfl (brow_one _ _ _ _) ?_
  replace RE := (setRow_other z1 (w.heap.size) gE (brow (zr 32) (zr 32) (zr 32) false) (by omega)).trans RE
  replace R3 := (setRow_other z1 (w.heap.size) (w.heap.size + 1) (brow (zr 32) (zr 32) (zr 32) false) (by omega)).trans R3
  replace R0 := setRow_heap z1 (w.heap.size) _ ((brow (zr 32) (zr 32) (zr 32) false)) _ _ R0
  replace hw := below_setRow hw (show w.heap.size ≤ w.heap.size by omega) (brow (zr 32) (zr 32) (zr 32) false)
  refine hK_ _ _ RE ?_
  simp only [Act.put, List.getElem_toArray, List.getElem_cons_succ, List.getElem_cons_zero]
  clear hK_
  generalize z1.setRow (w.heap.size) (brow (zr 32) (zr 32) (zr 32) false) = z2 at *
  refine wpAnyH_one (k := 3) (fuel := 0) (by kernel_rfl) rfl (by kernel_rfl) (fun K_ hK_ => ?_)
  refine wp_store_row 35 _ _ rfl (w.heap.size + 1) #[.int .i64 x.line, .int .i64 x.at_, .int .i64 x.why] rfl rfl 35 _ R3 infoFt rfl oneE ?_
  replace RE := (setRow_other z2 (w.heap.size + 1) gE #[.int .i64 x.line, .int .i64 x.at_, .int .i64 x.why] (by omega)).trans RE
  replace R0 := (setRow_other z2 (w.heap.size + 1) (w.heap.size) #[.int .i64 x.line, .int .i64 x.at_, .int .i64 x.why] (by omega)).trans R0
  replace R3 := setRow_heap z2 (w.heap.size + 1) _ (#[.int .i64 x.line, .int .i64 x.at_, .int .i64 x.why]) _ _ R3
  replace hw := below_setRow hw (show w.heap.size ≤ w.heap.size + 1 by omega) #[.int .i64 x.line, .int .i64 x.at_, .int .i64 x.why]
  refine hK_ _ _ RE ?_
  simp only [Act.put, List.getElem_toArray, List.getElem_cons_succ, List.getElem_cons_zero]
  clear hK_
  refine wpAnyH_done (by kernel_rfl) ?_ _
  go_wp2_with (fail)
  exact bodyPost_ret (v := .tuple #[.agg (brow (zr 32) (zr 32) (zr 32) false), .agg #[.int .i64 x.line, .int .i64 x.at_, .int .i64 x.why]]) (results_cell_cell Tryz.results16 _ _ (w.heap.size) (w.heap.size + 1) _ _ _ _ _ _ _ _ rfl R0 Tryz.underlying43 rfl (info_brow _ _ _ _ (zr_len 32) (zr_len 32) (zr_len 32)) rfl R3 Tryz.underlying35 rfl infoFt) rfl ⟨by unfold RrB; rw [hpf.out]; rfl, hw⟩
 | none =>
  obtain ⟨pv, fv, us, rfl, hO, hF⟩ := hD
  obtain ⟨hd0, i, s, o, fl, hfs, li, ls, lo, hfl2⟩ := dec_bsl hR
  rw [hfs] at hO hF
  obtain ⟨pb, pc, rfl, hpb1, hpb2, hra⟩ := own_rangeR hO (by simp)
  have hu : us.length = 4 := hF.2.1
  obtain ⟨g0, c0, e0, hc0, hgb0, hgl0, hr0⟩ := own_range (hF.2.2.1 0 (by omega)) (by show 0 < i.length; omega)
  obtain ⟨g1, c1, e1, hc1, hgb1, hgl1, hr1⟩ := own_range (hF.2.2.1 1 (by omega)) (by show 0 < s.length; omega)
  obtain ⟨g3, c3, e3, hc3, hgb3, hgl3, hr3⟩ := own_range (hF.2.2.1 3 (by omega)) (by show 0 < o.length; omega)
  have hvr : vrk [⟨1, 2, 0, i⟩, ⟨2, 2, 0, s⟩, ⟨3, 0, fl, []⟩, ⟨4, 2, 0, o⟩] us 4 = [.int .u64 0, .slice (some ⟨g0, 0, none⟩) 32 c0, .slice none 0 0, .int .u64 0, .slice (some ⟨g1, 0, none⟩) 32 c1, .slice none 0 0, .int .u64 (fl : Int), gv us 2, .slice none 0 0, .int .u64 0, .slice (some ⟨g3, 0, none⟩) 32 c3, .slice none 0 0] := by
   have q0 : gv us 0 = .slice (some ⟨g0, 0, none⟩) 32 c0 := by rw [e0]; show Value.slice _ i.length _ = _; rw [li]
   have q1 : gv us 1 = .slice (some ⟨g1, 0, none⟩) 32 c1 := by rw [e1]; show Value.slice _ s.length _ = _; rw [ls]
   have q3 : gv us 3 = .slice (some ⟨g3, 0, none⟩) 32 c3 := by rw [e3]; show Value.slice _ o.length _ = _; rw [lo]
   rw [← q0, ← q1, ← q3]
   rfl
  have hra' : w3.rangeAt pb 0 [.int .u64 0, .slice (some ⟨g0, 0, none⟩) 32 c0, .slice none 0 0, .int .u64 0, .slice (some ⟨g1, 0, none⟩) 32 c1, .slice none 0 0, .int .u64 (fl : Int), gv us 2, .slice none 0 0, .int .u64 0, .slice (some ⟨g3, 0, none⟩) 32 c3, .slice none 0 0] := by rw [← hvr]; exact hra
  replace hra := hra'
  replace hr0 : w3.rangeAt g0 0 ((bl i).map (Value.int .u8)) := hr0
  replace hr1 : w3.rangeAt g1 0 ((bl s).map (Value.int .u8)) := hr1
  replace hr3 : w3.rangeAt g3 0 ((bl o).map (Value.int .u8)) := hr3
  obtain ⟨hb, hfl⟩ : ∃ b, ((fl : Int) == 1) = b := ⟨_, rfl⟩
  have hbd : hb = decide (fl = 1) := by
   rw [← hfl]
   by_cases h1 : fl = 1
   ·subst h1; rfl
   ·rw [decide_eq_false h1]
    have : ((fl : Int)) ≠ 1 := by omega
    simpa using this
  have hpf : Hid (par14 d = if hb || decide (bl o = zr 32) then none else some ⟨0, 70, 140⟩) := hide (by
   unfold par14
   rw [hR]
   simp only
   rw [hfs]
   show (if fl = 1 ∨ o = z32 then none else some (⟨0, 70, 140⟩ : Flt3)) = _
   rw [hbd]
   by_cases h1 : fl = 1
   ·rw [if_pos (.inl h1), decide_eq_true h1]
    rfl
   ·by_cases h2 : o = z32
    ·rw [if_pos (.inr h2), decide_eq_true (zr_bl.2 h2), Bool.or_true]
     rfl
    ·have h3 : ¬ bl o = zr 32 := fun h => h2 (zr_bl.1 h)
     rw [if_neg (fun h => h.elim h1 h2), decide_eq_false h3, decide_eq_false h1]
     rfl)
  have hpb : Hid (pbn d = (brow (bl i) (bl s) (bl o) hb)) := hide (by unfold pbn; rw [hfs, hbd]; rfl)
  replace hfs := hide hfs
  clear hra' hvr e0 e1 e3 hO hF hd0 hu hc0 hc1 hc3 hR hbd hfl2
  generalize gv us 2 = uu2 at *
  have rZ := hp2_0 w3 (.cells #[.int .u64 0, .slice none 0 0, .slice none 0 0] 78) (.cells #[.int .i64 0, .int .i64 0, .int .i64 0] 35)
  have rF := hp2_1 w3 (.cells #[.int .u64 0, .slice none 0 0, .slice none 0 0] 78) (.cells #[.int .i64 0, .int .i64 0, .int .i64 0] 35)
  have oneA : (#[Value.int .u64 0, .slice none 0 0, .slice (some ⟨pb, 0, none⟩) 4 pc] : Array Value).all (·.oneCell') = true := by simp [Value.oneCell']
  have oneE : (#[Value.int .i64 0, .int .i64 0, .int .i64 0] : Array Value).all (·.oneCell') = true := by simp [Value.oneCell']
  have rF2 := (setRow_other ((w3.alloc (.cells #[.int .u64 0, .slice none 0 0, .slice none 0 0] 78)).alloc (.cells #[.int .i64 0, .int .i64 0, .int .i64 0] 35)) w3.heap.size (w3.heap.size + 1) #[.int .u64 0, .slice none 0 0, .slice (some ⟨pb, 0, none⟩) 4 pc] (by omega)).trans rF
  have rV2 := setRow_heap _ w3.heap.size _ #[.int .u64 0, .slice none 0 0, .slice (some ⟨pb, 0, none⟩) 4 pc] _ _ rZ
  have rV := (setRow_other (((w3.alloc (.cells #[.int .u64 0, .slice none 0 0, .slice none 0 0] 78)).alloc (.cells #[.int .i64 0, .int .i64 0, .int .i64 0] 35)).setRow w3.heap.size #[.int .u64 0, .slice none 0 0, .slice (some ⟨pb, 0, none⟩) 4 pc]) (w3.heap.size + 1) w3.heap.size #[.int .i64 0, .int .i64 0, .int .i64 0] (by omega)).trans rV2
  have rE := setRow_heap _ (w3.heap.size + 1) _ #[.int .i64 0, .int .i64 0, .int .i64 0] _ _ rF2
  have hb5 : Below w3.heap.size w3 ((((w3.alloc (.cells #[.int .u64 0, .slice none 0 0, .slice none 0 0] 78)).alloc (.cells #[.int .i64 0, .int .i64 0, .int .i64 0] 35)).setRow w3.heap.size #[.int .u64 0, .slice none 0 0, .slice (some ⟨pb, 0, none⟩) 4 pc]).setRow (w3.heap.size + 1) #[.int .i64 0, .int .i64 0, .int .i64 0]) := below_setRow (below_setRow (((Below.refl _ _).alloc (Nat.le_refl _) _).alloc (by simp) _) (Nat.le_refl _) #[.int .u64 0, .slice none 0 0, .slice (some ⟨pb, 0, none⟩) 4 pc]) (by omega) #[.int .i64 0, .int .i64 0, .int .i64 0]
  have l03 := lt_of_row R0
  have l33 := lt_of_row R3
  replace R0 := keep hb5 R0
  replace R3 := keep hb5 R3
  replace hw := Below.after hw hb5
  have lV3 := lt_of_row rV
  have lE3 := lt_of_row rE
  clear rV2
  replace hra := rangeS_keep2 hra hb5 hpb2
  replace hr0 := rangeS_keep2 hr0 hb5 hgl0
  replace hr1 := rangeS_keep2 hr1 hb5 hgl1
  replace hr3 := rangeS_keep2 hr3 hb5 hgl3
  have A1 := hide R0
  have A2 := hide hw
  have A3 := hide hra
  have A4 := hide hr0
  have A5 := hide R3
  have A6 := hide hr1
  have A9 := hide hr3
  have A7 := hide rV
  have A8 := hide lV3
  have cW := cell_of_row _ _ 2 _ _ _ rE
  clear R0 R3 hw hra hr0 hr1 hr3 rV lV3 lE3 rE hb5
  go_upto_region 2 with (first | (refine wpList_store_row rfl 78 _ _ rfl w3.heap.size #[.int .u64 0, .slice none 0 0, .slice (some ⟨pb, 0, none⟩) 4 pc] rfl rfl 78 _ rZ infoV rfl oneA ?_) | (refine wpList_store_row rfl 35 _ _ rfl (w3.heap.size + 1) #[.int .i64 0, .int .i64 0, .int .i64 0] rfl rfl 35 _ rF2 infoFt rfl oneE ?_) | fail)
  simp only [Act.put]
  clear rZ rF rF2
  generalize (((w3.alloc (.cells #[.int .u64 0, .slice none 0 0, .slice none 0 0] 78)).alloc (.cells #[.int .i64 0, .int .i64 0, .int .i64 0] 35)).setRow w3.heap.size #[.int .u64 0, .slice none 0 0, .slice (some ⟨pb, 0, none⟩) 4 pc]).setRow (w3.heap.size + 1) #[.int .i64 0, .int .i64 0, .int .i64 0] = w6 at *
  go_upto_region 4 with (fail)
  have R0 := A1.out
  have hw := A2.out
  have hra := A3.out
  have hr0 := A4.out
  have R3 := A5.out
  have hr1 := A6.out
  have hr3 := A9.out
  have rV := A7.out
  have lV6 := A8.out
  clear A1 A2 A3 A4 A5 A6 A9 A7 A8 cW
  generalize w3.heap.size = gV at *
  have HS : (fun W : World => W.heap[gV]? = some (.cells #[.int .u64 0, .slice none 0 0, .slice (some ⟨pb, 0, none⟩) 4 pc] 78 (0, 0)) ∧ W.rangeAt pb 0 [.int .u64 0, .slice (some ⟨g0, 0, none⟩) 32 c0, .slice none 0 0, .int .u64 0, .slice (some ⟨g1, 0, none⟩) 32 c1, .slice none 0 0, .int .u64 (fl : Int), uu2, .slice none 0 0, .int .u64 0, .slice (some ⟨g3, 0, none⟩) 32 c3, .slice none 0 0] ∧ W.rangeAt g0 0 ((bl i).map (Value.int .u8)) ∧ W.rangeAt g1 0 ((bl s).map (Value.int .u8)) ∧ W.rangeAt g3 0 ((bl o).map (Value.int .u8))) w6 := ⟨rV, hra, hr0, hr1, hr3⟩
  clear rV hra hr0 hr1 hr3
  go_cut [6] from 7 to 46 (fun s6 wx => ∃ gB : Nat, s6 = .pointer (some ⟨gB, 0, none⟩) ∧ wx.heap[gB]? = some (.cells (brow (bl i) (bl s) (bl o) hb) 43 (0, 0)) ∧ w.heap.size + 1 < gB ∧ wx.heap[w.heap.size]? = some (.cells (brow (zr 32) (zr 32) (zr 32) false) 43 (0, 0)) ∧ wx.heap[w.heap.size + 1]? = some (.cells #[.int .i64 0, .int .i64 0, .int .i64 0] 35 (0, 0)) ∧ Below w.heap.size w wx)
  case first =>
   clear hpf hpb hfs
   have hbd : Below w6.heap.size w6 w6.drew := below_drN (Below.refl _ _) 1
   have HS' : (fun W : World => W.heap[gV]? = some (.cells #[.int .u64 0, .slice none 0 0, .slice (some ⟨pb, 0, none⟩) 4 pc] 78 (0, 0)) ∧ W.rangeAt pb 0 [.int .u64 0, .slice (some ⟨g0, 0, none⟩) 32 c0, .slice none 0 0, .int .u64 0, .slice (some ⟨g1, 0, none⟩) 32 c1, .slice none 0 0, .int .u64 (fl : Int), uu2, .slice none 0 0, .int .u64 0, .slice (some ⟨g3, 0, none⟩) 32 c3, .slice none 0 0] ∧ W.rangeAt g0 0 ((bl i).map (Value.int .u8)) ∧ W.rangeAt g1 0 ((bl s).map (Value.int .u8)) ∧ W.rangeAt g3 0 ((bl o).map (Value.int .u8))) _ := ⟨keep hbd HS.1, rangeS_keep2 HS.2.1 hbd (by omega), rangeS_keep2 HS.2.2.1 hbd (by omega), rangeS_keep2 HS.2.2.2.1 hbd (by omega), rangeS_keep2 HS.2.2.2.2 hbd (by omega)⟩
   have zz_y1 := hbd.size
   replace HS := HS'
   clear HS'
   replace R0 := keep hbd R0
   replace R3 := keep hbd R3
   replace hw := Below.after hw hbd
   clear hbd
   refine wp_region_noPanic ?_
   refine wp_region_held (S := fun W : World => W.heap[gV]? = some (.cells #[.int .u64 0, .slice none 0 0, .slice (some ⟨pb, 0, none⟩) 4 pc] 78 (0, 0)) ∧ W.rangeAt pb 0 [.int .u64 0, .slice (some ⟨g0, 0, none⟩) 32 c0, .slice none 0 0, .int .u64 0, .slice (some ⟨g1, 0, none⟩) 32 c1, .slice none 0 0, .int .u64 (fl : Int), uu2, .slice none 0 0, .int .u64 0, .slice (some ⟨g3, 0, none⟩) 32 c3, .slice none 0 0] ∧ W.rangeAt g0 0 ((bl i).map (Value.int .u8)) ∧ W.rangeAt g1 0 ((bl s).map (Value.int .u8)) ∧ W.rangeAt g3 0 ((bl o).map (Value.int .u8))) (by kernel_rfl) ?_
   change wpAnyH _ _ _ _ _ _ _ _ (World.drew _)
   generalize w6.drew = y1 at *
   refine wpAnyH_take (i := 0) (v := ?v64) rfl (by kernel_rfl) (by kernel_rfl) (by kernel_rfl) (fun _ _ _ h => h) (Or.inl ⟨by rfl, ?y64⟩) (HS) ?r64
   case y64 =>
    intro w_ hS_
    go_simp
    try with_reducible rfl
   simp only [Act.put, List.getElem_toArray, List.getElem_cons_zero, List.setIfInBounds_toArray, List.set_cons_succ, List.set_cons_zero]
   refine wpAnyH_take (i := 1) (v := .slice (some ⟨pb, 0, none⟩) 4 pc) rfl (by kernel_rfl) (by kernel_rfl) (by kernel_rfl) (fun _ _ _ h => h) (Or.inl ⟨by rfl, ?y65⟩) (HS) ?r65
   case y65 =>
    intro w_ hS_
    have c_ := cell_of_row _ _ 2 _ _ _ hS_.1
    go_simp
    try with_reducible rfl
   simp only [Act.put, List.getElem_toArray, List.getElem_cons_succ, List.getElem_cons_zero, List.setIfInBounds_toArray, List.set_cons_succ, List.set_cons_zero]
   refine wpAnyH_take (i := 2) (v := ?v66) rfl (by kernel_rfl) (by kernel_rfl) (by kernel_rfl) (fun _ _ _ h => h) (Or.inl ⟨by rfl, ?y66⟩) (HS) ?r66
   case y66 =>
    intro w_ hS_
    go_simp
    try with_reducible rfl
   simp only [Act.put, List.getElem_toArray, List.getElem_cons_succ, List.getElem_cons_zero, List.setIfInBounds_toArray, List.set_cons_succ, List.set_cons_zero]
   refine wpAnyH_take (i := 3) (v := .agg #[.int .u64 0, .slice (some ⟨g0, 0, none⟩) 32 c0, .slice none 0 0]) rfl (by kernel_rfl) (by kernel_rfl) (by kernel_rfl) (fun _ _ _ h => h) (Or.inl ⟨by rfl, ?y67⟩) (HS) ?r67
   case y67 =>
    intro w_ hS_
    simp only [List.getElem_toArray, List.getElem_cons_succ, List.getElem_cons_zero]
    exact run_load_rng 78 _ rfl pb 0 rfl [.int .u64 0, .slice (some ⟨g0, 0, none⟩) 32 c0, .slice none 0 0] _ (fun k_ v_ h_ => by
     have q_ : ([.int .u64 0, .slice (some ⟨g0, 0, none⟩) 32 c0, .slice none 0 0, .int .u64 0, .slice (some ⟨g1, 0, none⟩) 32 c1, .slice none 0 0, .int .u64 (fl : Int), uu2, .slice none 0 0, .int .u64 0, .slice (some ⟨g3, 0, none⟩) 32 c3, .slice none 0 0] : List Value)[0 + k_]? = some v_ := by
      match k_, h_ with
      | 0, h_ => exact h_
      | 1, h_ => exact h_
      | 2, h_ => exact h_
      | k_ + 3, h_ => simp at h_
     have := hS_.2.1 (0 + k_) v_ q_
     rwa [Nat.zero_add] at this) Tryz.underlying78 rfl infoV
   simp only [Act.put, List.getElem_toArray, List.getElem_cons_succ, List.getElem_cons_zero, List.setIfInBounds_toArray, List.set_cons_succ, List.set_cons_zero]
   refine wpAnyH_take (i := 5) (v := ?v68) rfl (by kernel_rfl) (by kernel_rfl) (by kernel_rfl) (fun _ _ _ h => h) (Or.inl ⟨by rfl, ?y68⟩) (HS) ?r68
   case y68 =>
    intro w_ hS_
    go_simp
    try with_reducible rfl
   simp only [Act.put, List.getElem_toArray, List.getElem_cons_succ, List.getElem_cons_zero, List.setIfInBounds_toArray, List.set_cons_succ, List.set_cons_zero]
   refine wpAnyH_take (i := 6) (v := .slice (some ⟨pb, 0, none⟩) 4 pc) rfl (by kernel_rfl) (by kernel_rfl) (by kernel_rfl) (fun _ _ _ h => h) (Or.inl ⟨by rfl, ?y69⟩) (HS) ?r69
   case y69 =>
    intro w_ hS_
    have c_ := cell_of_row _ _ 2 _ _ _ hS_.1
    go_simp
    try with_reducible rfl
   simp only [Act.put, List.getElem_toArray, List.getElem_cons_succ, List.getElem_cons_zero, List.setIfInBounds_toArray, List.set_cons_succ, List.set_cons_zero]
   refine wpAnyH_take (i := 7) (v := ?v70) rfl (by kernel_rfl) (by kernel_rfl) (by kernel_rfl) (fun _ _ _ h => h) (Or.inl ⟨by rfl, ?y70⟩) (HS) ?r70
   case y70 =>
    intro w_ hS_
    go_simp
    try with_reducible rfl
   simp only [Act.put, List.getElem_toArray, List.getElem_cons_succ, List.getElem_cons_zero, List.setIfInBounds_toArray, List.set_cons_succ, List.set_cons_zero]
   refine wpAnyH_take (i := 8) (v := .agg #[.int .u64 0, .slice (some ⟨g1, 0, none⟩) 32 c1, .slice none 0 0]) rfl (by kernel_rfl) (by kernel_rfl) (by kernel_rfl) (fun _ _ _ h => h) (Or.inl ⟨by rfl, ?y71⟩) (HS) ?r71
   case y71 =>
    intro w_ hS_
    simp only [List.getElem_toArray, List.getElem_cons_succ, List.getElem_cons_zero]
    exact run_load_rng 78 _ rfl pb 3 rfl [.int .u64 0, .slice (some ⟨g1, 0, none⟩) 32 c1, .slice none 0 0] _ (fun k_ v_ h_ => by
     have q_ : ([.int .u64 0, .slice (some ⟨g0, 0, none⟩) 32 c0, .slice none 0 0, .int .u64 0, .slice (some ⟨g1, 0, none⟩) 32 c1, .slice none 0 0, .int .u64 (fl : Int), uu2, .slice none 0 0, .int .u64 0, .slice (some ⟨g3, 0, none⟩) 32 c3, .slice none 0 0] : List Value)[3 + k_]? = some v_ := by
      match k_, h_ with
      | 0, h_ => exact h_
      | 1, h_ => exact h_
      | 2, h_ => exact h_
      | k_ + 3, h_ => simp at h_
     have := hS_.2.1 (3 + k_) v_ q_
     rwa [Nat.zero_add] at this) Tryz.underlying78 rfl infoV
   simp only [Act.put, List.getElem_toArray, List.getElem_cons_succ, List.getElem_cons_zero, List.setIfInBounds_toArray, List.set_cons_succ, List.set_cons_zero]
   refine wpAnyH_take (i := 10) (v := ?v72) rfl (by kernel_rfl) (by kernel_rfl) (by kernel_rfl) (fun _ _ _ h => h) (Or.inl ⟨by rfl, ?y72⟩) (HS) ?r72
   case y72 =>
    intro w_ hS_
    go_simp
    try with_reducible rfl
   simp only [Act.put, List.getElem_toArray, List.getElem_cons_succ, List.getElem_cons_zero, List.setIfInBounds_toArray, List.set_cons_succ, List.set_cons_zero]
   refine wpAnyH_take (i := 11) (v := .slice (some ⟨pb, 0, none⟩) 4 pc) rfl (by kernel_rfl) (by kernel_rfl) (by kernel_rfl) (fun _ _ _ h => h) (Or.inl ⟨by rfl, ?y73⟩) (HS) ?r73
   case y73 =>
    intro w_ hS_
    have c_ := cell_of_row _ _ 2 _ _ _ hS_.1
    go_simp
    try with_reducible rfl
   simp only [Act.put, List.getElem_toArray, List.getElem_cons_succ, List.getElem_cons_zero, List.setIfInBounds_toArray, List.set_cons_succ, List.set_cons_zero]
   refine wpAnyH_take (i := 12) (v := ?v74) rfl (by kernel_rfl) (by kernel_rfl) (by kernel_rfl) (fun _ _ _ h => h) (Or.inl ⟨by rfl, ?y74⟩) (HS) ?r74
   case y74 =>
    intro w_ hS_
    go_simp
    try with_reducible rfl
   simp only [Act.put, List.getElem_toArray, List.getElem_cons_succ, List.getElem_cons_zero, List.setIfInBounds_toArray, List.set_cons_succ, List.set_cons_zero]
   refine wpAnyH_take (i := 13) (v := .agg #[.int .u64 0, .slice (some ⟨g3, 0, none⟩) 32 c3, .slice none 0 0]) rfl (by kernel_rfl) (by kernel_rfl) (by kernel_rfl) (fun _ _ _ h => h) (Or.inl ⟨by rfl, ?y75⟩) (HS) ?r75
   case y75 =>
    intro w_ hS_
    simp only [List.getElem_toArray, List.getElem_cons_succ, List.getElem_cons_zero]
    exact run_load_rng 78 _ rfl pb 9 rfl [.int .u64 0, .slice (some ⟨g3, 0, none⟩) 32 c3, .slice none 0 0] _ (fun k_ v_ h_ => by
     have q_ : ([.int .u64 0, .slice (some ⟨g0, 0, none⟩) 32 c0, .slice none 0 0, .int .u64 0, .slice (some ⟨g1, 0, none⟩) 32 c1, .slice none 0 0, .int .u64 (fl : Int), uu2, .slice none 0 0, .int .u64 0, .slice (some ⟨g3, 0, none⟩) 32 c3, .slice none 0 0] : List Value)[9 + k_]? = some v_ := by
      match k_, h_ with
      | 0, h_ => exact h_
      | 1, h_ => exact h_
      | 2, h_ => exact h_
      | k_ + 3, h_ => simp at h_
     have := hS_.2.1 (9 + k_) v_ q_
     rwa [Nat.zero_add] at this) Tryz.underlying78 rfl infoV
   simp only [Act.put, List.getElem_toArray, List.getElem_cons_succ, List.getElem_cons_zero, List.setIfInBounds_toArray, List.set_cons_succ, List.set_cons_zero]
   refine wpAnyH_take (i := 15) (v := ?v76) rfl (by kernel_rfl) (by kernel_rfl) (by kernel_rfl) (fun _ _ _ h => h) (Or.inl ⟨by rfl, ?y76⟩) (HS) ?r76
   case y76 =>
    intro w_ hS_
    go_simp
    try with_reducible rfl
   simp only [Act.put, List.getElem_toArray, List.getElem_cons_succ, List.getElem_cons_zero, List.setIfInBounds_toArray, List.set_cons_succ, List.set_cons_zero]
   refine wpAnyH_take (i := 16) (v := .slice (some ⟨pb, 0, none⟩) 4 pc) rfl (by kernel_rfl) (by kernel_rfl) (by kernel_rfl) (fun _ _ _ h => h) (Or.inl ⟨by rfl, ?y77⟩) (HS) ?r77
   case y77 =>
    intro w_ hS_
    have c_ := cell_of_row _ _ 2 _ _ _ hS_.1
    go_simp
    try with_reducible rfl
   simp only [Act.put, List.getElem_toArray, List.getElem_cons_succ, List.getElem_cons_zero, List.setIfInBounds_toArray, List.set_cons_succ, List.set_cons_zero]
   refine wpAnyH_take (i := 17) (v := ?v78) rfl (by kernel_rfl) (by kernel_rfl) (by kernel_rfl) (fun _ _ _ h => h) (Or.inl ⟨by rfl, ?y78⟩) (HS) ?r78
   case y78 =>
    intro w_ hS_
    go_simp
    try with_reducible rfl
   simp only [Act.put, List.getElem_toArray, List.getElem_cons_succ, List.getElem_cons_zero, List.setIfInBounds_toArray, List.set_cons_succ, List.set_cons_zero]
   refine wpAnyH_take (i := 18) (v := ?v79) rfl (by kernel_rfl) (by kernel_rfl) (by kernel_rfl) (fun _ _ _ h => h) (Or.inl ⟨by rfl, ?y79⟩) (HS) ?r79
   case y79 =>
    intro w_ hS_
    go_simp
    try with_reducible rfl
   simp only [Act.put, List.getElem_toArray, List.getElem_cons_succ, List.getElem_cons_zero, List.setIfInBounds_toArray, List.set_cons_succ, List.set_cons_zero]
   refine wpAnyH_take (i := 19) (v := .int .u64 (fl : Int)) rfl (by kernel_rfl) (by kernel_rfl) (by kernel_rfl) (fun _ _ _ h => h) (Or.inl ⟨by rfl, ?y80⟩) (HS) ?r80
   case y80 =>
    intro w_ hS_
    have c_ : w_.cell? ⟨pb, 6, none⟩ = some (.int .u64 (fl : Int)) := hS_.2.1 6 _ rfl
    go_simp
    try with_reducible rfl
   simp only [Act.put, List.getElem_toArray, List.getElem_cons_succ, List.getElem_cons_zero, List.setIfInBounds_toArray, List.set_cons_succ, List.set_cons_zero]
   refine wpAnyH_take (i := 20) (v := .bool hb) rfl (by kernel_rfl) (by kernel_rfl) (by kernel_rfl) (fun _ _ _ h => h) (Or.inl ⟨by rfl, ?y81⟩) (HS) ?r81
   case y81 =>
    intro w_ hS_
    go_simp
    try (rw [hfl])
   simp only [Act.put, List.getElem_toArray, List.getElem_cons_succ, List.getElem_cons_zero, List.setIfInBounds_toArray, List.set_cons_succ, List.set_cons_zero]
   refine wpAnyH_two (j := 4) (k := 22) (fuel := 5) (by kernel_rfl) rfl rfl (by kernel_rfl) (by kernel_rfl) (fun K_ hK_ => ?_) (fun K_ hK_ => ?_)
   ·have lr_q1 := lt_of_row R3
    refine wp_call_ex (f := 38) (R := fun v w' => v = .agg (irow .u8 (bl i)) ∧ Below y1.heap.size y1 w') (by kernel_rfl) ((r_key14 0 g0 c0 (.slice none 0 0) i li y1 (by omega) HS.2.2.1).mono (fun e w' h => (by obtain ⟨h1, h2⟩ := h; exact ⟨_, h1, rfl, h2⟩))) (fun v_ q1 hX_ => ?_)
    obtain ⟨rfl, hb_⟩ := hX_
    have HS' : (fun W : World => W.heap[gV]? = some (.cells #[.int .u64 0, .slice none 0 0, .slice (some ⟨pb, 0, none⟩) 4 pc] 78 (0, 0)) ∧ W.rangeAt pb 0 [.int .u64 0, .slice (some ⟨g0, 0, none⟩) 32 c0, .slice none 0 0, .int .u64 0, .slice (some ⟨g1, 0, none⟩) 32 c1, .slice none 0 0, .int .u64 (fl : Int), uu2, .slice none 0 0, .int .u64 0, .slice (some ⟨g3, 0, none⟩) 32 c3, .slice none 0 0] ∧ W.rangeAt g0 0 ((bl i).map (Value.int .u8)) ∧ W.rangeAt g1 0 ((bl s).map (Value.int .u8)) ∧ W.rangeAt g3 0 ((bl o).map (Value.int .u8))) _ := ⟨keep hb_ HS.1, rangeS_keep2 HS.2.1 hb_ (by omega), rangeS_keep2 HS.2.2.1 hb_ (by omega), rangeS_keep2 HS.2.2.2.1 hb_ (by omega), rangeS_keep2 HS.2.2.2.2 hb_ (by omega)⟩
    have zz_q1 := hb_.size
    replace HS := HS'
    clear HS'
    replace R0 := keep hb_ R0
    replace R3 := keep hb_ R3
    replace hw := Below.after hw hb_
    clear hb_
    refine hK_ _ _ HS ?_
    simp only [Act.put, List.getElem_toArray, List.getElem_cons_succ, List.getElem_cons_zero, List.setIfInBounds_toArray, List.set_cons_succ, List.set_cons_zero]
    clear hK_
    refine wpAnyH_two (j := 9) (k := 22) (fuel := 4) (by kernel_rfl) rfl rfl (by kernel_rfl) (by kernel_rfl) (fun K_ hK_ => ?_) (fun K_ hK_ => ?_)
    ·have lr_q2 := lt_of_row R3
     refine wp_call_ex (f := 38) (R := fun v w' => v = .agg (irow .u8 (bl s)) ∧ Below q1.heap.size q1 w') (by kernel_rfl) ((r_key14 0 g1 c1 (.slice none 0 0) s ls q1 (by omega) HS.2.2.2.1).mono (fun e w' h => (by obtain ⟨h1, h2⟩ := h; exact ⟨_, h1, rfl, h2⟩))) (fun v_ q2 hX_ => ?_)
     obtain ⟨rfl, hb_⟩ := hX_
     have HS' : (fun W : World => W.heap[gV]? = some (.cells #[.int .u64 0, .slice none 0 0, .slice (some ⟨pb, 0, none⟩) 4 pc] 78 (0, 0)) ∧ W.rangeAt pb 0 [.int .u64 0, .slice (some ⟨g0, 0, none⟩) 32 c0, .slice none 0 0, .int .u64 0, .slice (some ⟨g1, 0, none⟩) 32 c1, .slice none 0 0, .int .u64 (fl : Int), uu2, .slice none 0 0, .int .u64 0, .slice (some ⟨g3, 0, none⟩) 32 c3, .slice none 0 0] ∧ W.rangeAt g0 0 ((bl i).map (Value.int .u8)) ∧ W.rangeAt g1 0 ((bl s).map (Value.int .u8)) ∧ W.rangeAt g3 0 ((bl o).map (Value.int .u8))) _ := ⟨keep hb_ HS.1, rangeS_keep2 HS.2.1 hb_ (by omega), rangeS_keep2 HS.2.2.1 hb_ (by omega), rangeS_keep2 HS.2.2.2.1 hb_ (by omega), rangeS_keep2 HS.2.2.2.2 hb_ (by omega)⟩
     have zz_q2 := hb_.size
     replace HS := HS'
     clear HS'
     replace R0 := keep hb_ R0
     replace R3 := keep hb_ R3
     replace hw := Below.after hw hb_
     clear hb_
     refine hK_ _ _ HS ?_
     simp only [Act.put, List.getElem_toArray, List.getElem_cons_succ, List.getElem_cons_zero, List.setIfInBounds_toArray, List.set_cons_succ, List.set_cons_zero]
     clear hK_
     refine wpAnyH_two (j := 14) (k := 22) (fuel := 3) (by kernel_rfl) rfl rfl (by kernel_rfl) (by kernel_rfl) (fun K_ hK_ => ?_) (fun K_ hK_ => ?_)
     ·have lr_q3 := lt_of_row R3
      refine wp_call_ex (f := 38) (R := fun v w' => v = .agg (irow .u8 (bl o)) ∧ Below q2.heap.size q2 w') (by kernel_rfl) ((r_key14 0 g3 c3 (.slice none 0 0) o lo q2 (by omega) HS.2.2.2.2).mono (fun e w' h => (by obtain ⟨h1, h2⟩ := h; exact ⟨_, h1, rfl, h2⟩))) (fun v_ q3 hX_ => ?_)
      obtain ⟨rfl, hb_⟩ := hX_
      have HS' : (fun W : World => W.heap[gV]? = some (.cells #[.int .u64 0, .slice none 0 0, .slice (some ⟨pb, 0, none⟩) 4 pc] 78 (0, 0)) ∧ W.rangeAt pb 0 [.int .u64 0, .slice (some ⟨g0, 0, none⟩) 32 c0, .slice none 0 0, .int .u64 0, .slice (some ⟨g1, 0, none⟩) 32 c1, .slice none 0 0, .int .u64 (fl : Int), uu2, .slice none 0 0, .int .u64 0, .slice (some ⟨g3, 0, none⟩) 32 c3, .slice none 0 0] ∧ W.rangeAt g0 0 ((bl i).map (Value.int .u8)) ∧ W.rangeAt g1 0 ((bl s).map (Value.int .u8)) ∧ W.rangeAt g3 0 ((bl o).map (Value.int .u8))) _ := ⟨keep hb_ HS.1, rangeS_keep2 HS.2.1 hb_ (by omega), rangeS_keep2 HS.2.2.1 hb_ (by omega), rangeS_keep2 HS.2.2.2.1 hb_ (by omega), rangeS_keep2 HS.2.2.2.2 hb_ (by omega)⟩
      have zz_q3 := hb_.size
      replace HS := HS'
      clear HS'
      replace R0 := keep hb_ R0
      replace R3 := keep hb_ R3
      replace hw := Below.after hw hb_
      clear hb_
      refine hK_ _ _ HS ?_
      simp only [Act.put, List.getElem_toArray, List.getElem_cons_succ, List.getElem_cons_zero, List.setIfInBounds_toArray, List.set_cons_succ, List.set_cons_zero]
      clear hK_
      refine wpAnyH_take (i := 21) (v := .agg (brow (bl i) (bl s) (bl o) hb)) rfl (by kernel_rfl) (by kernel_rfl) (by kernel_rfl) (fun _ _ _ h => h) (Or.inl ⟨by rfl, ?y82⟩) (HS) ?r82
      case y82 =>
       intro w_ hS_
       simp only [List.getElem_toArray, List.getElem_cons_succ, List.getElem_cons_zero]
       exact run_build_op 43 _ rfl [(0, .agg (irow .u8 (bl i))), (1, .agg (irow .u8 (bl s))), (2, .agg (irow .u8 (bl o))), (3, .bool hb)] rfl _ (builtB4r _ _ _ hb (by rw [bl_len, li]) (by rw [bl_len, ls]) (by rw [bl_len, lo]))
      simp only [Act.put, List.getElem_toArray, List.getElem_cons_succ, List.getElem_cons_zero, List.setIfInBounds_toArray, List.set_cons_succ, List.set_cons_zero]
      refine wpAnyH_one (k := 22) (fuel := 1) (by kernel_rfl) rfl (by kernel_rfl) (fun K_ hK_ => ?_)
      have lr_q4 := lt_of_row R3
      have lv_q4 := lt_of_row HS.1
      refine wp_world_op (.pointer (some ⟨q3.heap.size, 0, none⟩)) (q3.alloc (.cells (brow (zr 32) (zr 32) (zr 32) false) 43)) (by kernel_rfl) ?_
      have hb_ : Below q3.heap.size q3 (q3.alloc (.cells (brow (zr 32) (zr 32) (zr 32) false) 43)) := (Below.refl _ _).alloc (Nat.le_refl _) _
      have RB := hp1_0 q3 (.cells (brow (zr 32) (zr 32) (zr 32) false) 43)
      have HS' : (fun W : World => W.heap[gV]? = some (.cells #[.int .u64 0, .slice none 0 0, .slice (some ⟨pb, 0, none⟩) 4 pc] 78 (0, 0)) ∧ W.rangeAt pb 0 [.int .u64 0, .slice (some ⟨g0, 0, none⟩) 32 c0, .slice none 0 0, .int .u64 0, .slice (some ⟨g1, 0, none⟩) 32 c1, .slice none 0 0, .int .u64 (fl : Int), uu2, .slice none 0 0, .int .u64 0, .slice (some ⟨g3, 0, none⟩) 32 c3, .slice none 0 0] ∧ W.rangeAt g0 0 ((bl i).map (Value.int .u8)) ∧ W.rangeAt g1 0 ((bl s).map (Value.int .u8)) ∧ W.rangeAt g3 0 ((bl o).map (Value.int .u8))) _ := ⟨keep hb_ HS.1, rangeS_keep2 HS.2.1 hb_ (by omega), rangeS_keep2 HS.2.2.1 hb_ (by omega), rangeS_keep2 HS.2.2.2.1 hb_ (by omega), rangeS_keep2 HS.2.2.2.2 hb_ (by omega)⟩
      have zz_q4 := hb_.size
      replace HS := HS'
      clear HS'
      replace R0 := keep hb_ R0
      replace R3 := keep hb_ R3
      replace hw := Below.after hw hb_
      clear hb_
      refine hK_ _ _ HS ?_
      simp only [Act.put, List.getElem_toArray, List.getElem_cons_succ, List.getElem_cons_zero, List.setIfInBounds_toArray, List.set_cons_succ, List.set_cons_zero]
      clear hK_
      generalize q3.alloc (.cells (brow (zr 32) (zr 32) (zr 32) false) 43) = q4 at *
      have k1_ : w.heap.size + 1 < q3.heap.size := by omega
      have k2_ : gV < q3.heap.size := by omega
      have k3_ : pb < q3.heap.size ∧ g0 < q3.heap.size ∧ g1 < q3.heap.size ∧ g3 < q3.heap.size := by omega
      generalize hgB_ : q3.heap.size = gB at *
      refine wpAnyH_one (k := 23) (fuel := 0) (by kernel_rfl) rfl (by kernel_rfl) (fun K_ hK_ => ?_)
      refine wp_store_row 43 _ _ rfl gB (brow (bl i) (bl s) (bl o) hb) rfl rfl 43 _ RB (info_brow _ _ _ _ (by rw [bl_len, li]) (by rw [bl_len, ls]) (by rw [bl_len, lo])) (by rw [brow_size _ _ _ _ (zr_len 32) (zr_len 32) (zr_len 32), brow_size _ _ _ _ (by rw [bl_len, li]) (by rw [bl_len, ls]) (by rw [bl_len, lo])]) (brow_one _ _ _ _) ?_
      have HS' : (fun W : World => W.heap[gV]? = some (.cells #[.int .u64 0, .slice none 0 0, .slice (some ⟨pb, 0, none⟩) 4 pc] 78 (0, 0)) ∧ W.rangeAt pb 0 [.int .u64 0, .slice (some ⟨g0, 0, none⟩) 32 c0, .slice none 0 0, .int .u64 0, .slice (some ⟨g1, 0, none⟩) 32 c1, .slice none 0 0, .int .u64 (fl : Int), uu2, .slice none 0 0, .int .u64 0, .slice (some ⟨g3, 0, none⟩) 32 c3, .slice none 0 0] ∧ W.rangeAt g0 0 ((bl i).map (Value.int .u8)) ∧ W.rangeAt g1 0 ((bl s).map (Value.int .u8)) ∧ W.rangeAt g3 0 ((bl o).map (Value.int .u8))) (q4.setRow gB (brow (bl i) (bl s) (bl o) hb)) := ⟨(setRow_other q4 gB gV (brow (bl i) (bl s) (bl o) hb) (by omega)).trans HS.1, mv_range HS.2.1 (setRow_other q4 gB pb (brow (bl i) (bl s) (bl o) hb) (by omega)), mv_range HS.2.2.1 (setRow_other q4 gB g0 (brow (bl i) (bl s) (bl o) hb) (by omega)), mv_range HS.2.2.2.1 (setRow_other q4 gB g1 (brow (bl i) (bl s) (bl o) hb) (by omega)), mv_range HS.2.2.2.2 (setRow_other q4 gB g3 (brow (bl i) (bl s) (bl o) hb) (by omega))⟩
      replace R0 := (setRow_other q4 gB (w.heap.size) (brow (bl i) (bl s) (bl o) hb) (by omega)).trans R0
      replace R3 := (setRow_other q4 gB (w.heap.size + 1) (brow (bl i) (bl s) (bl o) hb) (by omega)).trans R3
      replace RB := setRow_heap q4 gB _ (brow (bl i) (bl s) (bl o) hb) _ _ RB
      replace hw := below_setRow hw (show w.heap.size ≤ gB by omega) (brow (bl i) (bl s) (bl o) hb)
      refine hK_ _ _ HS' ?_
      simp only [Act.put, List.getElem_toArray, List.getElem_cons_succ, List.getElem_cons_zero]
      clear hK_ HS HS'
      generalize q4.setRow gB (brow (bl i) (bl s) (bl o) hb) = q5 at *
      refine wpAnyH_done (by kernel_rfl) ?_ _
      refine NoPanic.normal ?_
      go_wp2_with (fail)
      go_meet
      case rel => exact ⟨gB, rfl, RB, k1_, R0, R3, hw⟩
     ·have lr_q6 := lt_of_row R3
      have lv_q6 := lt_of_row HS.1
      refine wp_world_op (.pointer (some ⟨q2.heap.size, 0, none⟩)) (q2.alloc (.cells (brow (zr 32) (zr 32) (zr 32) false) 43)) (by kernel_rfl) ?_
      have hb_ : Below q2.heap.size q2 (q2.alloc (.cells (brow (zr 32) (zr 32) (zr 32) false) 43)) := (Below.refl _ _).alloc (Nat.le_refl _) _
      have RB := hp1_0 q2 (.cells (brow (zr 32) (zr 32) (zr 32) false) 43)
      have HS' : (fun W : World => W.heap[gV]? = some (.cells #[.int .u64 0, .slice none 0 0, .slice (some ⟨pb, 0, none⟩) 4 pc] 78 (0, 0)) ∧ W.rangeAt pb 0 [.int .u64 0, .slice (some ⟨g0, 0, none⟩) 32 c0, .slice none 0 0, .int .u64 0, .slice (some ⟨g1, 0, none⟩) 32 c1, .slice none 0 0, .int .u64 (fl : Int), uu2, .slice none 0 0, .int .u64 0, .slice (some ⟨g3, 0, none⟩) 32 c3, .slice none 0 0] ∧ W.rangeAt g0 0 ((bl i).map (Value.int .u8)) ∧ W.rangeAt g1 0 ((bl s).map (Value.int .u8)) ∧ W.rangeAt g3 0 ((bl o).map (Value.int .u8))) _ := ⟨keep hb_ HS.1, rangeS_keep2 HS.2.1 hb_ (by omega), rangeS_keep2 HS.2.2.1 hb_ (by omega), rangeS_keep2 HS.2.2.2.1 hb_ (by omega), rangeS_keep2 HS.2.2.2.2 hb_ (by omega)⟩
      have zz_q6 := hb_.size
      replace HS := HS'
      clear HS'
      replace R0 := keep hb_ R0
      replace R3 := keep hb_ R3
      replace hw := Below.after hw hb_
      clear hb_
      refine hK_ _ _ HS ?_
      simp only [Act.put, List.getElem_toArray, List.getElem_cons_succ, List.getElem_cons_zero, List.setIfInBounds_toArray, List.set_cons_succ, List.set_cons_zero]
      clear hK_
      generalize q2.alloc (.cells (brow (zr 32) (zr 32) (zr 32) false) 43) = q6 at *
      have k1_ : w.heap.size + 1 < q2.heap.size := by omega
      have k2_ : gV < q2.heap.size := by omega
      have k3_ : pb < q2.heap.size ∧ g0 < q2.heap.size ∧ g1 < q2.heap.size ∧ g3 < q2.heap.size := by omega
      generalize hgB_ : q2.heap.size = gB at *
      refine wpAnyH_one (k := 14) (fuel := 2) (by kernel_rfl) rfl (by kernel_rfl) (fun K_ hK_ => ?_)
      have lr_q7 := lt_of_row R3
      have lb_q7 := lt_of_row RB
      refine wp_call_ex (f := 38) (R := fun v w' => v = .agg (irow .u8 (bl o)) ∧ Below q6.heap.size q6 w') (by kernel_rfl) ((r_key14 0 g3 c3 (.slice none 0 0) o lo q6 (by omega) HS.2.2.2.2).mono (fun e w' h => (by obtain ⟨h1, h2⟩ := h; exact ⟨_, h1, rfl, h2⟩))) (fun v_ q7 hX_ => ?_)
      obtain ⟨rfl, hb_⟩ := hX_
      have HS' : (fun W : World => W.heap[gV]? = some (.cells #[.int .u64 0, .slice none 0 0, .slice (some ⟨pb, 0, none⟩) 4 pc] 78 (0, 0)) ∧ W.rangeAt pb 0 [.int .u64 0, .slice (some ⟨g0, 0, none⟩) 32 c0, .slice none 0 0, .int .u64 0, .slice (some ⟨g1, 0, none⟩) 32 c1, .slice none 0 0, .int .u64 (fl : Int), uu2, .slice none 0 0, .int .u64 0, .slice (some ⟨g3, 0, none⟩) 32 c3, .slice none 0 0] ∧ W.rangeAt g0 0 ((bl i).map (Value.int .u8)) ∧ W.rangeAt g1 0 ((bl s).map (Value.int .u8)) ∧ W.rangeAt g3 0 ((bl o).map (Value.int .u8))) _ := ⟨keep hb_ HS.1, rangeS_keep2 HS.2.1 hb_ (by omega), rangeS_keep2 HS.2.2.1 hb_ (by omega), rangeS_keep2 HS.2.2.2.1 hb_ (by omega), rangeS_keep2 HS.2.2.2.2 hb_ (by omega)⟩
      have zz_q7 := hb_.size
      replace HS := HS'
      clear HS'
      replace R0 := keep hb_ R0
      replace R3 := keep hb_ R3
      replace hw := Below.after hw hb_
      replace RB := keep hb_ RB
      clear hb_
      refine hK_ _ _ HS ?_
      simp only [Act.put, List.getElem_toArray, List.getElem_cons_succ, List.getElem_cons_zero, List.setIfInBounds_toArray, List.set_cons_succ, List.set_cons_zero]
      clear hK_
      refine wpAnyH_take (i := 21) (v := .agg (brow (bl i) (bl s) (bl o) hb)) rfl (by kernel_rfl) (by kernel_rfl) (by kernel_rfl) (fun _ _ _ h => h) (Or.inl ⟨by rfl, ?y83⟩) (HS) ?r83
      case y83 =>
       intro w_ hS_
       simp only [List.getElem_toArray, List.getElem_cons_succ, List.getElem_cons_zero]
       exact run_build_op 43 _ rfl [(0, .agg (irow .u8 (bl i))), (1, .agg (irow .u8 (bl s))), (2, .agg (irow .u8 (bl o))), (3, .bool hb)] rfl _ (builtB4r _ _ _ hb (by rw [bl_len, li]) (by rw [bl_len, ls]) (by rw [bl_len, lo]))
      simp only [Act.put, List.getElem_toArray, List.getElem_cons_succ, List.getElem_cons_zero, List.setIfInBounds_toArray, List.set_cons_succ, List.set_cons_zero]
      refine wpAnyH_one (k := 23) (fuel := 0) (by kernel_rfl) rfl (by kernel_rfl) (fun K_ hK_ => ?_)
      refine wp_store_row 43 _ _ rfl gB (brow (bl i) (bl s) (bl o) hb) rfl rfl 43 _ RB (info_brow _ _ _ _ (by rw [bl_len, li]) (by rw [bl_len, ls]) (by rw [bl_len, lo])) (by rw [brow_size _ _ _ _ (zr_len 32) (zr_len 32) (zr_len 32), brow_size _ _ _ _ (by rw [bl_len, li]) (by rw [bl_len, ls]) (by rw [bl_len, lo])]) (brow_one _ _ _ _) ?_
      have HS' : (fun W : World => W.heap[gV]? = some (.cells #[.int .u64 0, .slice none 0 0, .slice (some ⟨pb, 0, none⟩) 4 pc] 78 (0, 0)) ∧ W.rangeAt pb 0 [.int .u64 0, .slice (some ⟨g0, 0, none⟩) 32 c0, .slice none 0 0, .int .u64 0, .slice (some ⟨g1, 0, none⟩) 32 c1, .slice none 0 0, .int .u64 (fl : Int), uu2, .slice none 0 0, .int .u64 0, .slice (some ⟨g3, 0, none⟩) 32 c3, .slice none 0 0] ∧ W.rangeAt g0 0 ((bl i).map (Value.int .u8)) ∧ W.rangeAt g1 0 ((bl s).map (Value.int .u8)) ∧ W.rangeAt g3 0 ((bl o).map (Value.int .u8))) (q7.setRow gB (brow (bl i) (bl s) (bl o) hb)) := ⟨(setRow_other q7 gB gV (brow (bl i) (bl s) (bl o) hb) (by omega)).trans HS.1, mv_range HS.2.1 (setRow_other q7 gB pb (brow (bl i) (bl s) (bl o) hb) (by omega)), mv_range HS.2.2.1 (setRow_other q7 gB g0 (brow (bl i) (bl s) (bl o) hb) (by omega)), mv_range HS.2.2.2.1 (setRow_other q7 gB g1 (brow (bl i) (bl s) (bl o) hb) (by omega)), mv_range HS.2.2.2.2 (setRow_other q7 gB g3 (brow (bl i) (bl s) (bl o) hb) (by omega))⟩
      replace R0 := (setRow_other q7 gB (w.heap.size) (brow (bl i) (bl s) (bl o) hb) (by omega)).trans R0
      replace R3 := (setRow_other q7 gB (w.heap.size + 1) (brow (bl i) (bl s) (bl o) hb) (by omega)).trans R3
      replace RB := setRow_heap q7 gB _ (brow (bl i) (bl s) (bl o) hb) _ _ RB
      replace hw := below_setRow hw (show w.heap.size ≤ gB by omega) (brow (bl i) (bl s) (bl o) hb)
      refine hK_ _ _ HS' ?_
      simp only [Act.put, List.getElem_toArray, List.getElem_cons_succ, List.getElem_cons_zero]
      clear hK_ HS HS'
      generalize q7.setRow gB (brow (bl i) (bl s) (bl o) hb) = q8 at *
      refine wpAnyH_done (by kernel_rfl) ?_ _
      refine NoPanic.normal ?_
      go_wp2_with (fail)
      go_meet
      case rel => exact ⟨gB, rfl, RB, k1_, R0, R3, hw⟩
    ·have lr_q9 := lt_of_row R3
     have lv_q9 := lt_of_row HS.1
     refine wp_world_op (.pointer (some ⟨q1.heap.size, 0, none⟩)) (q1.alloc (.cells (brow (zr 32) (zr 32) (zr 32) false) 43)) (by kernel_rfl) ?_
     have hb_ : Below q1.heap.size q1 (q1.alloc (.cells (brow (zr 32) (zr 32) (zr 32) false) 43)) := (Below.refl _ _).alloc (Nat.le_refl _) _
     have RB := hp1_0 q1 (.cells (brow (zr 32) (zr 32) (zr 32) false) 43)
     have HS' : (fun W : World => W.heap[gV]? = some (.cells #[.int .u64 0, .slice none 0 0, .slice (some ⟨pb, 0, none⟩) 4 pc] 78 (0, 0)) ∧ W.rangeAt pb 0 [.int .u64 0, .slice (some ⟨g0, 0, none⟩) 32 c0, .slice none 0 0, .int .u64 0, .slice (some ⟨g1, 0, none⟩) 32 c1, .slice none 0 0, .int .u64 (fl : Int), uu2, .slice none 0 0, .int .u64 0, .slice (some ⟨g3, 0, none⟩) 32 c3, .slice none 0 0] ∧ W.rangeAt g0 0 ((bl i).map (Value.int .u8)) ∧ W.rangeAt g1 0 ((bl s).map (Value.int .u8)) ∧ W.rangeAt g3 0 ((bl o).map (Value.int .u8))) _ := ⟨keep hb_ HS.1, rangeS_keep2 HS.2.1 hb_ (by omega), rangeS_keep2 HS.2.2.1 hb_ (by omega), rangeS_keep2 HS.2.2.2.1 hb_ (by omega), rangeS_keep2 HS.2.2.2.2 hb_ (by omega)⟩
     have zz_q9 := hb_.size
     replace HS := HS'
     clear HS'
     replace R0 := keep hb_ R0
     replace R3 := keep hb_ R3
     replace hw := Below.after hw hb_
     clear hb_
     refine hK_ _ _ HS ?_
     simp only [Act.put, List.getElem_toArray, List.getElem_cons_succ, List.getElem_cons_zero, List.setIfInBounds_toArray, List.set_cons_succ, List.set_cons_zero]
     clear hK_
     generalize q1.alloc (.cells (brow (zr 32) (zr 32) (zr 32) false) 43) = q9 at *
     have k1_ : w.heap.size + 1 < q1.heap.size := by omega
     have k2_ : gV < q1.heap.size := by omega
     have k3_ : pb < q1.heap.size ∧ g0 < q1.heap.size ∧ g1 < q1.heap.size ∧ g3 < q1.heap.size := by omega
     generalize hgB_ : q1.heap.size = gB at *
     refine wpAnyH_one (k := 9) (fuel := 3) (by kernel_rfl) rfl (by kernel_rfl) (fun K_ hK_ => ?_)
     have lr_q10 := lt_of_row R3
     have lb_q10 := lt_of_row RB
     refine wp_call_ex (f := 38) (R := fun v w' => v = .agg (irow .u8 (bl s)) ∧ Below q9.heap.size q9 w') (by kernel_rfl) ((r_key14 0 g1 c1 (.slice none 0 0) s ls q9 (by omega) HS.2.2.2.1).mono (fun e w' h => (by obtain ⟨h1, h2⟩ := h; exact ⟨_, h1, rfl, h2⟩))) (fun v_ q10 hX_ => ?_)
     obtain ⟨rfl, hb_⟩ := hX_
     have HS' : (fun W : World => W.heap[gV]? = some (.cells #[.int .u64 0, .slice none 0 0, .slice (some ⟨pb, 0, none⟩) 4 pc] 78 (0, 0)) ∧ W.rangeAt pb 0 [.int .u64 0, .slice (some ⟨g0, 0, none⟩) 32 c0, .slice none 0 0, .int .u64 0, .slice (some ⟨g1, 0, none⟩) 32 c1, .slice none 0 0, .int .u64 (fl : Int), uu2, .slice none 0 0, .int .u64 0, .slice (some ⟨g3, 0, none⟩) 32 c3, .slice none 0 0] ∧ W.rangeAt g0 0 ((bl i).map (Value.int .u8)) ∧ W.rangeAt g1 0 ((bl s).map (Value.int .u8)) ∧ W.rangeAt g3 0 ((bl o).map (Value.int .u8))) _ := ⟨keep hb_ HS.1, rangeS_keep2 HS.2.1 hb_ (by omega), rangeS_keep2 HS.2.2.1 hb_ (by omega), rangeS_keep2 HS.2.2.2.1 hb_ (by omega), rangeS_keep2 HS.2.2.2.2 hb_ (by omega)⟩
     have zz_q10 := hb_.size
     replace HS := HS'
     clear HS'
     replace R0 := keep hb_ R0
     replace R3 := keep hb_ R3
     replace hw := Below.after hw hb_
     replace RB := keep hb_ RB
     clear hb_
     refine hK_ _ _ HS ?_
     simp only [Act.put, List.getElem_toArray, List.getElem_cons_succ, List.getElem_cons_zero, List.setIfInBounds_toArray, List.set_cons_succ, List.set_cons_zero]
     clear hK_
     refine wpAnyH_one (k := 14) (fuel := 2) (by kernel_rfl) rfl (by kernel_rfl) (fun K_ hK_ => ?_)
     have lr_q11 := lt_of_row R3
     have lb_q11 := lt_of_row RB
     refine wp_call_ex (f := 38) (R := fun v w' => v = .agg (irow .u8 (bl o)) ∧ Below q10.heap.size q10 w') (by kernel_rfl) ((r_key14 0 g3 c3 (.slice none 0 0) o lo q10 (by omega) HS.2.2.2.2).mono (fun e w' h => (by obtain ⟨h1, h2⟩ := h; exact ⟨_, h1, rfl, h2⟩))) (fun v_ q11 hX_ => ?_)
     obtain ⟨rfl, hb_⟩ := hX_
     have HS' : (fun W : World => W.heap[gV]? = some (.cells #[.int .u64 0, .slice none 0 0, .slice (some ⟨pb, 0, none⟩) 4 pc] 78 (0, 0)) ∧ W.rangeAt pb 0 [.int .u64 0, .slice (some ⟨g0, 0, none⟩) 32 c0, .slice none 0 0, .int .u64 0, .slice (some ⟨g1, 0, none⟩) 32 c1, .slice none 0 0, .int .u64 (fl : Int), uu2, .slice none 0 0, .int .u64 0, .slice (some ⟨g3, 0, none⟩) 32 c3, .slice none 0 0] ∧ W.rangeAt g0 0 ((bl i).map (Value.int .u8)) ∧ W.rangeAt g1 0 ((bl s).map (Value.int .u8)) ∧ W.rangeAt g3 0 ((bl o).map (Value.int .u8))) _ := ⟨keep hb_ HS.1, rangeS_keep2 HS.2.1 hb_ (by omega), rangeS_keep2 HS.2.2.1 hb_ (by omega), rangeS_keep2 HS.2.2.2.1 hb_ (by omega), rangeS_keep2 HS.2.2.2.2 hb_ (by omega)⟩
     have zz_q11 := hb_.size
     replace HS := HS'
     clear HS'
     replace R0 := keep hb_ R0
     replace R3 := keep hb_ R3
     replace hw := Below.after hw hb_
     replace RB := keep hb_ RB
     clear hb_
     refine hK_ _ _ HS ?_
     simp only [Act.put, List.getElem_toArray, List.getElem_cons_succ, List.getElem_cons_zero, List.setIfInBounds_toArray, List.set_cons_succ, List.set_cons_zero]
     clear hK_
     refine wpAnyH_take (i := 21) (v := .agg (brow (bl i) (bl s) (bl o) hb)) rfl (by kernel_rfl) (by kernel_rfl) (by kernel_rfl) (fun _ _ _ h => h) (Or.inl ⟨by rfl, ?y84⟩) (HS) ?r84
     case y84 =>
      intro w_ hS_
      simp only [List.getElem_toArray, List.getElem_cons_succ, List.getElem_cons_zero]
      exact run_build_op 43 _ rfl [(0, .agg (irow .u8 (bl i))), (1, .agg (irow .u8 (bl s))), (2, .agg (irow .u8 (bl o))), (3, .bool hb)] rfl _ (builtB4r _ _ _ hb (by rw [bl_len, li]) (by rw [bl_len, ls]) (by rw [bl_len, lo]))
     simp only [Act.put, List.getElem_toArray, List.getElem_cons_succ, List.getElem_cons_zero, List.setIfInBounds_toArray, List.set_cons_succ, List.set_cons_zero]
     refine wpAnyH_one (k := 23) (fuel := 0) (by kernel_rfl) rfl (by kernel_rfl) (fun K_ hK_ => ?_)
     refine wp_store_row 43 _ _ rfl gB (brow (bl i) (bl s) (bl o) hb) rfl rfl 43 _ RB (info_brow _ _ _ _ (by rw [bl_len, li]) (by rw [bl_len, ls]) (by rw [bl_len, lo])) (by rw [brow_size _ _ _ _ (zr_len 32) (zr_len 32) (zr_len 32), brow_size _ _ _ _ (by rw [bl_len, li]) (by rw [bl_len, ls]) (by rw [bl_len, lo])]) (brow_one _ _ _ _) ?_
     have HS' : (fun W : World => W.heap[gV]? = some (.cells #[.int .u64 0, .slice none 0 0, .slice (some ⟨pb, 0, none⟩) 4 pc] 78 (0, 0)) ∧ W.rangeAt pb 0 [.int .u64 0, .slice (some ⟨g0, 0, none⟩) 32 c0, .slice none 0 0, .int .u64 0, .slice (some ⟨g1, 0, none⟩) 32 c1, .slice none 0 0, .int .u64 (fl : Int), uu2, .slice none 0 0, .int .u64 0, .slice (some ⟨g3, 0, none⟩) 32 c3, .slice none 0 0] ∧ W.rangeAt g0 0 ((bl i).map (Value.int .u8)) ∧ W.rangeAt g1 0 ((bl s).map (Value.int .u8)) ∧ W.rangeAt g3 0 ((bl o).map (Value.int .u8))) (q11.setRow gB (brow (bl i) (bl s) (bl o) hb)) := ⟨(setRow_other q11 gB gV (brow (bl i) (bl s) (bl o) hb) (by omega)).trans HS.1, mv_range HS.2.1 (setRow_other q11 gB pb (brow (bl i) (bl s) (bl o) hb) (by omega)), mv_range HS.2.2.1 (setRow_other q11 gB g0 (brow (bl i) (bl s) (bl o) hb) (by omega)), mv_range HS.2.2.2.1 (setRow_other q11 gB g1 (brow (bl i) (bl s) (bl o) hb) (by omega)), mv_range HS.2.2.2.2 (setRow_other q11 gB g3 (brow (bl i) (bl s) (bl o) hb) (by omega))⟩
     replace R0 := (setRow_other q11 gB (w.heap.size) (brow (bl i) (bl s) (bl o) hb) (by omega)).trans R0
     replace R3 := (setRow_other q11 gB (w.heap.size + 1) (brow (bl i) (bl s) (bl o) hb) (by omega)).trans R3
     replace RB := setRow_heap q11 gB _ (brow (bl i) (bl s) (bl o) hb) _ _ RB
     replace hw := below_setRow hw (show w.heap.size ≤ gB by omega) (brow (bl i) (bl s) (bl o) hb)
     refine hK_ _ _ HS' ?_
     simp only [Act.put, List.getElem_toArray, List.getElem_cons_succ, List.getElem_cons_zero]
     clear hK_ HS HS'
     generalize q11.setRow gB (brow (bl i) (bl s) (bl o) hb) = q12 at *
     refine wpAnyH_done (by kernel_rfl) ?_ _
     refine NoPanic.normal ?_
     go_wp2_with (fail)
     go_meet
     case rel => exact ⟨gB, rfl, RB, k1_, R0, R3, hw⟩
   ·have lr_q13 := lt_of_row R3
    have lv_q13 := lt_of_row HS.1
    refine wp_world_op (.pointer (some ⟨y1.heap.size, 0, none⟩)) (y1.alloc (.cells (brow (zr 32) (zr 32) (zr 32) false) 43)) (by kernel_rfl) ?_
    have hb_ : Below y1.heap.size y1 (y1.alloc (.cells (brow (zr 32) (zr 32) (zr 32) false) 43)) := (Below.refl _ _).alloc (Nat.le_refl _) _
    have RB := hp1_0 y1 (.cells (brow (zr 32) (zr 32) (zr 32) false) 43)
    have HS' : (fun W : World => W.heap[gV]? = some (.cells #[.int .u64 0, .slice none 0 0, .slice (some ⟨pb, 0, none⟩) 4 pc] 78 (0, 0)) ∧ W.rangeAt pb 0 [.int .u64 0, .slice (some ⟨g0, 0, none⟩) 32 c0, .slice none 0 0, .int .u64 0, .slice (some ⟨g1, 0, none⟩) 32 c1, .slice none 0 0, .int .u64 (fl : Int), uu2, .slice none 0 0, .int .u64 0, .slice (some ⟨g3, 0, none⟩) 32 c3, .slice none 0 0] ∧ W.rangeAt g0 0 ((bl i).map (Value.int .u8)) ∧ W.rangeAt g1 0 ((bl s).map (Value.int .u8)) ∧ W.rangeAt g3 0 ((bl o).map (Value.int .u8))) _ := ⟨keep hb_ HS.1, rangeS_keep2 HS.2.1 hb_ (by omega), rangeS_keep2 HS.2.2.1 hb_ (by omega), rangeS_keep2 HS.2.2.2.1 hb_ (by omega), rangeS_keep2 HS.2.2.2.2 hb_ (by omega)⟩
    have zz_q13 := hb_.size
    replace HS := HS'
    clear HS'
    replace R0 := keep hb_ R0
    replace R3 := keep hb_ R3
    replace hw := Below.after hw hb_
    clear hb_
    refine hK_ _ _ HS ?_
    simp only [Act.put, List.getElem_toArray, List.getElem_cons_succ, List.getElem_cons_zero, List.setIfInBounds_toArray, List.set_cons_succ, List.set_cons_zero]
    clear hK_
    generalize y1.alloc (.cells (brow (zr 32) (zr 32) (zr 32) false) 43) = q13 at *
    have k1_ : w.heap.size + 1 < y1.heap.size := by omega
    have k2_ : gV < y1.heap.size := by omega
    have k3_ : pb < y1.heap.size ∧ g0 < y1.heap.size ∧ g1 < y1.heap.size ∧ g3 < y1.heap.size := by omega
    generalize hgB_ : y1.heap.size = gB at *
    refine wpAnyH_one (k := 4) (fuel := 4) (by kernel_rfl) rfl (by kernel_rfl) (fun K_ hK_ => ?_)
    have lr_q14 := lt_of_row R3
    have lb_q14 := lt_of_row RB
    refine wp_call_ex (f := 38) (R := fun v w' => v = .agg (irow .u8 (bl i)) ∧ Below q13.heap.size q13 w') (by kernel_rfl) ((r_key14 0 g0 c0 (.slice none 0 0) i li q13 (by omega) HS.2.2.1).mono (fun e w' h => (by obtain ⟨h1, h2⟩ := h; exact ⟨_, h1, rfl, h2⟩))) (fun v_ q14 hX_ => ?_)
    obtain ⟨rfl, hb_⟩ := hX_
    have HS' : (fun W : World => W.heap[gV]? = some (.cells #[.int .u64 0, .slice none 0 0, .slice (some ⟨pb, 0, none⟩) 4 pc] 78 (0, 0)) ∧ W.rangeAt pb 0 [.int .u64 0, .slice (some ⟨g0, 0, none⟩) 32 c0, .slice none 0 0, .int .u64 0, .slice (some ⟨g1, 0, none⟩) 32 c1, .slice none 0 0, .int .u64 (fl : Int), uu2, .slice none 0 0, .int .u64 0, .slice (some ⟨g3, 0, none⟩) 32 c3, .slice none 0 0] ∧ W.rangeAt g0 0 ((bl i).map (Value.int .u8)) ∧ W.rangeAt g1 0 ((bl s).map (Value.int .u8)) ∧ W.rangeAt g3 0 ((bl o).map (Value.int .u8))) _ := ⟨keep hb_ HS.1, rangeS_keep2 HS.2.1 hb_ (by omega), rangeS_keep2 HS.2.2.1 hb_ (by omega), rangeS_keep2 HS.2.2.2.1 hb_ (by omega), rangeS_keep2 HS.2.2.2.2 hb_ (by omega)⟩
    have zz_q14 := hb_.size
    replace HS := HS'
    clear HS'
    replace R0 := keep hb_ R0
    replace R3 := keep hb_ R3
    replace hw := Below.after hw hb_
    replace RB := keep hb_ RB
    clear hb_
    refine hK_ _ _ HS ?_
    simp only [Act.put, List.getElem_toArray, List.getElem_cons_succ, List.getElem_cons_zero, List.setIfInBounds_toArray, List.set_cons_succ, List.set_cons_zero]
    clear hK_
    refine wpAnyH_one (k := 9) (fuel := 3) (by kernel_rfl) rfl (by kernel_rfl) (fun K_ hK_ => ?_)
    have lr_q15 := lt_of_row R3
    have lb_q15 := lt_of_row RB
    refine wp_call_ex (f := 38) (R := fun v w' => v = .agg (irow .u8 (bl s)) ∧ Below q14.heap.size q14 w') (by kernel_rfl) ((r_key14 0 g1 c1 (.slice none 0 0) s ls q14 (by omega) HS.2.2.2.1).mono (fun e w' h => (by obtain ⟨h1, h2⟩ := h; exact ⟨_, h1, rfl, h2⟩))) (fun v_ q15 hX_ => ?_)
    obtain ⟨rfl, hb_⟩ := hX_
    have HS' : (fun W : World => W.heap[gV]? = some (.cells #[.int .u64 0, .slice none 0 0, .slice (some ⟨pb, 0, none⟩) 4 pc] 78 (0, 0)) ∧ W.rangeAt pb 0 [.int .u64 0, .slice (some ⟨g0, 0, none⟩) 32 c0, .slice none 0 0, .int .u64 0, .slice (some ⟨g1, 0, none⟩) 32 c1, .slice none 0 0, .int .u64 (fl : Int), uu2, .slice none 0 0, .int .u64 0, .slice (some ⟨g3, 0, none⟩) 32 c3, .slice none 0 0] ∧ W.rangeAt g0 0 ((bl i).map (Value.int .u8)) ∧ W.rangeAt g1 0 ((bl s).map (Value.int .u8)) ∧ W.rangeAt g3 0 ((bl o).map (Value.int .u8))) _ := ⟨keep hb_ HS.1, rangeS_keep2 HS.2.1 hb_ (by omega), rangeS_keep2 HS.2.2.1 hb_ (by omega), rangeS_keep2 HS.2.2.2.1 hb_ (by omega), rangeS_keep2 HS.2.2.2.2 hb_ (by omega)⟩
    have zz_q15 := hb_.size
    replace HS := HS'
    clear HS'
    replace R0 := keep hb_ R0
    replace R3 := keep hb_ R3
    replace hw := Below.after hw hb_
    replace RB := keep hb_ RB
    clear hb_
    refine hK_ _ _ HS ?_
    simp only [Act.put, List.getElem_toArray, List.getElem_cons_succ, List.getElem_cons_zero, List.setIfInBounds_toArray, List.set_cons_succ, List.set_cons_zero]
    clear hK_
    refine wpAnyH_one (k := 14) (fuel := 2) (by kernel_rfl) rfl (by kernel_rfl) (fun K_ hK_ => ?_)
    have lr_q16 := lt_of_row R3
    have lb_q16 := lt_of_row RB
    refine wp_call_ex (f := 38) (R := fun v w' => v = .agg (irow .u8 (bl o)) ∧ Below q15.heap.size q15 w') (by kernel_rfl) ((r_key14 0 g3 c3 (.slice none 0 0) o lo q15 (by omega) HS.2.2.2.2).mono (fun e w' h => (by obtain ⟨h1, h2⟩ := h; exact ⟨_, h1, rfl, h2⟩))) (fun v_ q16 hX_ => ?_)
    obtain ⟨rfl, hb_⟩ := hX_
    have HS' : (fun W : World => W.heap[gV]? = some (.cells #[.int .u64 0, .slice none 0 0, .slice (some ⟨pb, 0, none⟩) 4 pc] 78 (0, 0)) ∧ W.rangeAt pb 0 [.int .u64 0, .slice (some ⟨g0, 0, none⟩) 32 c0, .slice none 0 0, .int .u64 0, .slice (some ⟨g1, 0, none⟩) 32 c1, .slice none 0 0, .int .u64 (fl : Int), uu2, .slice none 0 0, .int .u64 0, .slice (some ⟨g3, 0, none⟩) 32 c3, .slice none 0 0] ∧ W.rangeAt g0 0 ((bl i).map (Value.int .u8)) ∧ W.rangeAt g1 0 ((bl s).map (Value.int .u8)) ∧ W.rangeAt g3 0 ((bl o).map (Value.int .u8))) _ := ⟨keep hb_ HS.1, rangeS_keep2 HS.2.1 hb_ (by omega), rangeS_keep2 HS.2.2.1 hb_ (by omega), rangeS_keep2 HS.2.2.2.1 hb_ (by omega), rangeS_keep2 HS.2.2.2.2 hb_ (by omega)⟩
    have zz_q16 := hb_.size
    replace HS := HS'
    clear HS'
    replace R0 := keep hb_ R0
    replace R3 := keep hb_ R3
    replace hw := Below.after hw hb_
    replace RB := keep hb_ RB
    clear hb_
    refine hK_ _ _ HS ?_
    simp only [Act.put, List.getElem_toArray, List.getElem_cons_succ, List.getElem_cons_zero, List.setIfInBounds_toArray, List.set_cons_succ, List.set_cons_zero]
    clear hK_
    refine wpAnyH_take (i := 21) (v := .agg (brow (bl i) (bl s) (bl o) hb)) rfl (by kernel_rfl) (by kernel_rfl) (by kernel_rfl) (fun _ _ _ h => h) (Or.inl ⟨by rfl, ?y85⟩) (HS) ?r85
    case y85 =>
     intro w_ hS_
     simp only [List.getElem_toArray, List.getElem_cons_succ, List.getElem_cons_zero]
     exact run_build_op 43 _ rfl [(0, .agg (irow .u8 (bl i))), (1, .agg (irow .u8 (bl s))), (2, .agg (irow .u8 (bl o))), (3, .bool hb)] rfl _ (builtB4r _ _ _ hb (by rw [bl_len, li]) (by rw [bl_len, ls]) (by rw [bl_len, lo]))
    simp only [Act.put, List.getElem_toArray, List.getElem_cons_succ, List.getElem_cons_zero, List.setIfInBounds_toArray, List.set_cons_succ, List.set_cons_zero]
    refine wpAnyH_one (k := 23) (fuel := 0) (by kernel_rfl) rfl (by kernel_rfl) (fun K_ hK_ => ?_)
    refine wp_store_row 43 _ _ rfl gB (brow (bl i) (bl s) (bl o) hb) rfl rfl 43 _ RB (info_brow _ _ _ _ (by rw [bl_len, li]) (by rw [bl_len, ls]) (by rw [bl_len, lo])) (by rw [brow_size _ _ _ _ (zr_len 32) (zr_len 32) (zr_len 32), brow_size _ _ _ _ (by rw [bl_len, li]) (by rw [bl_len, ls]) (by rw [bl_len, lo])]) (brow_one _ _ _ _) ?_
    have HS' : (fun W : World => W.heap[gV]? = some (.cells #[.int .u64 0, .slice none 0 0, .slice (some ⟨pb, 0, none⟩) 4 pc] 78 (0, 0)) ∧ W.rangeAt pb 0 [.int .u64 0, .slice (some ⟨g0, 0, none⟩) 32 c0, .slice none 0 0, .int .u64 0, .slice (some ⟨g1, 0, none⟩) 32 c1, .slice none 0 0, .int .u64 (fl : Int), uu2, .slice none 0 0, .int .u64 0, .slice (some ⟨g3, 0, none⟩) 32 c3, .slice none 0 0] ∧ W.rangeAt g0 0 ((bl i).map (Value.int .u8)) ∧ W.rangeAt g1 0 ((bl s).map (Value.int .u8)) ∧ W.rangeAt g3 0 ((bl o).map (Value.int .u8))) (q16.setRow gB (brow (bl i) (bl s) (bl o) hb)) := ⟨(setRow_other q16 gB gV (brow (bl i) (bl s) (bl o) hb) (by omega)).trans HS.1, mv_range HS.2.1 (setRow_other q16 gB pb (brow (bl i) (bl s) (bl o) hb) (by omega)), mv_range HS.2.2.1 (setRow_other q16 gB g0 (brow (bl i) (bl s) (bl o) hb) (by omega)), mv_range HS.2.2.2.1 (setRow_other q16 gB g1 (brow (bl i) (bl s) (bl o) hb) (by omega)), mv_range HS.2.2.2.2 (setRow_other q16 gB g3 (brow (bl i) (bl s) (bl o) hb) (by omega))⟩
    replace R0 := (setRow_other q16 gB (w.heap.size) (brow (bl i) (bl s) (bl o) hb) (by omega)).trans R0
    replace R3 := (setRow_other q16 gB (w.heap.size + 1) (brow (bl i) (bl s) (bl o) hb) (by omega)).trans R3
    replace RB := setRow_heap q16 gB _ (brow (bl i) (bl s) (bl o) hb) _ _ RB
    replace hw := below_setRow hw (show w.heap.size ≤ gB by omega) (brow (bl i) (bl s) (bl o) hb)
    refine hK_ _ _ HS' ?_
    simp only [Act.put, List.getElem_toArray, List.getElem_cons_succ, List.getElem_cons_zero]
    clear hK_ HS HS'
    generalize q16.setRow gB (brow (bl i) (bl s) (bl o) hb) = q17 at *
    refine wpAnyH_done (by kernel_rfl) ?_ _
    refine NoPanic.normal ?_
    go_wp2_with (fail)
    go_meet
    case rel => exact ⟨gB, rfl, RB, k1_, R0, R3, hw⟩
  case rest =>
   obtain ⟨gB, rfl, RB, kB, R0, R3, hw⟩ := hcut
   clear HS hfl
   have cC := hide (r_can14 (bl i) (bl s) (bl o) hb (by rw [bl_len, li]) (by rw [bl_len, ls]) (by rw [bl_len, lo]) wc)
   go_wp2_with (first | (refine wpList_load_want rfl 43 _ rfl gB rfl 43 (brow (bl i) (bl s) (bl o) hb) (0, 0) _ RB Tryz.underlying43 rfl (info_brow _ _ _ _ (by rw [bl_len, li]) (by rw [bl_len, ls]) (by rw [bl_len, lo])) ?_) | fail)
   refine cC.out.mono ?_
   rintro e_ y9 ⟨rfl, hb_⟩
   have l0_ := lt_of_row R3
   have lB_ := lt_of_row RB
   replace R0 := keep hb_ R0
   replace R3 := keep hb_ R3
   replace RB := keep hb_ RB
   replace hw := Below.after hw hb_
   clear hb_ cC
   cases hC : (hb || decide (bl o = zr 32)) with
   | true =>
    rw [hC] at hpf
    replace hC := hide hC
    have oneF : (#[Value.int .i64 0, .int .i64 0, .int .i64 0] : Array Value).all (·.oneCell') = true := by simp [Value.oneCell']
    have R3b := (setRow_other y9 (w.heap.size) (w.heap.size + 1) (brow (bl i) (bl s) (bl o) hb) (by omega)).trans R3
    go_wp2_with (first | (refine wpList_load_want rfl 43 _ rfl gB rfl 43 (brow (bl i) (bl s) (bl o) hb) (0, 0) _ RB Tryz.underlying43 rfl (info_brow _ _ _ _ (by rw [bl_len, li]) (by rw [bl_len, ls]) (by rw [bl_len, lo])) ?_) | (refine wpList_build_want rfl 35 _ rfl [] rfl #[.int .i64 0, .int .i64 0, .int .i64 0] builtF00 ?_) | (refine wpList_store_row rfl 43 _ _ rfl (w.heap.size) (brow (bl i) (bl s) (bl o) hb) rfl rfl 43 _ R0 (info_brow _ _ _ _ (by rw [bl_len, li]) (by rw [bl_len, ls]) (by rw [bl_len, lo])) (by rw [brow_size _ _ _ _ (zr_len 32) (zr_len 32) (zr_len 32), brow_size _ _ _ _ (by rw [bl_len, li]) (by rw [bl_len, ls]) (by rw [bl_len, lo])]) (brow_one _ _ _ _) ?_) | (refine wpList_store_row rfl 35 _ _ rfl (w.heap.size + 1) #[.int .i64 0, .int .i64 0, .int .i64 0] rfl rfl 35 _ R3b infoFt rfl oneF ?_) | fail)
    clear R3b
    replace R3 := (setRow_other y9 (w.heap.size) (w.heap.size + 1) (brow (bl i) (bl s) (bl o) hb) (by omega)).trans R3
    replace R0 := setRow_heap y9 (w.heap.size) _ ((brow (bl i) (bl s) (bl o) hb)) _ _ R0
    replace hw := below_setRow hw (show w.heap.size ≤ w.heap.size by omega) (brow (bl i) (bl s) (bl o) hb)
    generalize y9.setRow (w.heap.size) (brow (bl i) (bl s) (bl o) hb) = x3 at *
    replace R0 := (setRow_other x3 (w.heap.size + 1) (w.heap.size) #[.int .i64 0, .int .i64 0, .int .i64 0] (by omega)).trans R0
    replace R3 := setRow_heap x3 (w.heap.size + 1) _ (#[.int .i64 0, .int .i64 0, .int .i64 0]) _ _ R3
    replace hw := below_setRow hw (show w.heap.size ≤ w.heap.size + 1 by omega) #[.int .i64 0, .int .i64 0, .int .i64 0]
    exact bodyPost_ret (v := .tuple #[.agg (brow (bl i) (bl s) (bl o) hb), .agg #[.int .i64 0, .int .i64 0, .int .i64 0]]) (results_cell_cell Tryz.results16 _ _ (w.heap.size) (w.heap.size + 1) _ _ _ _ _ _ _ _ rfl R0 Tryz.underlying43 rfl (info_brow _ _ _ _ (by rw [bl_len, li]) (by rw [bl_len, ls]) (by rw [bl_len, lo])) rfl R3 Tryz.underlying35 rfl infoFt) rfl ⟨by unfold RrB; rw [hpf.out, hpb.out]; rfl, hw⟩
   | false =>
    rw [hC] at hpf
    replace hC := hide hC
    clear RB
    have oneF : (#[Value.int .i64 0, .int .i64 70, .int .i64 140] : Array Value).all (·.oneCell') = true := by simp [Value.oneCell']
    have R3b := (setRow_other y9 (w.heap.size) (w.heap.size + 1) (brow (zr 32) (zr 32) (zr 32) false) (by omega)).trans R3
    go_wp2_with (first | (refine wpList_build_want rfl 43 _ rfl [] rfl (brow (zr 32) (zr 32) (zr 32) false) builtB0 ?_) | (refine wpList_build_want rfl 35 _ rfl [(1, .int .i64 70), (2, .int .i64 140)] rfl #[.int .i64 0, .int .i64 70, .int .i64 140] builtF70 ?_) | (refine wpList_store_row rfl 43 _ _ rfl (w.heap.size) (brow (zr 32) (zr 32) (zr 32) false) rfl rfl 43 _ R0 (info_brow _ _ _ _ (zr_len 32) (zr_len 32) (zr_len 32)) rfl (brow_one _ _ _ _) ?_) | (refine wpList_store_row rfl 35 _ _ rfl (w.heap.size + 1) #[.int .i64 0, .int .i64 70, .int .i64 140] rfl rfl 35 _ R3b infoFt rfl oneF ?_) | fail)
    clear R3b
    replace R3 := (setRow_other y9 (w.heap.size) (w.heap.size + 1) (brow (zr 32) (zr 32) (zr 32) false) (by omega)).trans R3
    replace R0 := setRow_heap y9 (w.heap.size) _ ((brow (zr 32) (zr 32) (zr 32) false)) _ _ R0
    replace hw := below_setRow hw (show w.heap.size ≤ w.heap.size by omega) (brow (zr 32) (zr 32) (zr 32) false)
    generalize y9.setRow (w.heap.size) (brow (zr 32) (zr 32) (zr 32) false) = x3 at *
    replace R0 := (setRow_other x3 (w.heap.size + 1) (w.heap.size) #[.int .i64 0, .int .i64 70, .int .i64 140] (by omega)).trans R0
    replace R3 := setRow_heap x3 (w.heap.size + 1) _ (#[.int .i64 0, .int .i64 70, .int .i64 140]) _ _ R3
    replace hw := below_setRow hw (show w.heap.size ≤ w.heap.size + 1 by omega) #[.int .i64 0, .int .i64 70, .int .i64 140]
    exact bodyPost_ret (v := .tuple #[.agg (brow (zr 32) (zr 32) (zr 32) false), .agg #[.int .i64 0, .int .i64 70, .int .i64 140]]) (results_cell_cell Tryz.results16 _ _ (w.heap.size) (w.heap.size + 1) _ _ _ _ _ _ _ _ rfl R0 Tryz.underlying43 rfl (info_brow _ _ _ _ (zr_len 32) (zr_len 32) (zr_len 32)) rfl R3 Tryz.underlying35 rfl infoFt) rfl ⟨by unfold RrB; rw [hpf.out]; rfl, hw⟩
end Go.Proofs.YtjoohgkgkabbpaaGreatDoor

