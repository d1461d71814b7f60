import Derived.Test.YtjoohgkgkabbpaaGreatDoorXQc0
import Derived.Test.YtjoohgkgkabbpaaGreatDoorXQb4
import Derived.OwnWalk
import Derived.Deep.Cut
import Derived.Deep.RegionHeld3
namespace Go.Proofs.YtjoohgkgkabbpaaGreatDoor
set_option maxRecDepth 100000
open Go Go.RowKit Go.Sort
attribute [local go_sem] setCell_drewN alloc_drewN
theorem r_sizeX (n : Nat) (hn : n < 18446744073709551616) (w : World) : Calls Tryz.prog 117 #[.int .u64 (n : Int)] w fun e w' => ∃ u, e = .returned u ∧ u = .int .i64 ((en n).length : Int) ∧ Below w.heap.size w w' := (r_size n hn w).mono fun _ _ h => ⟨_, h.1, rfl, h.2⟩
theorem bFld (cs : Array Value) (W : World) : (Instr.box 72 (.agg cs)).run Tryz.prog W = .ok (.pointer (some ⟨W.heap.size, 0, none⟩)) (W.alloc (.cells cs 72)) := by kernel_rfl
set_option maxRecDepth 100000 in
set_option maxHeartbeats 8000000 in
theorem r_at (p e : Int) (w : World) : Calls Tryz.prog 91 #[.int .i64 p, .int .i64 e] w fun x w' => x = .returned (.agg #[.int .i64 0, .int .i64 p, .int .i64 e]) ∧ Below w.heap.size w w' := by
 have hb : Below w.heap.size w (w.alloc (.cells #[.int .i64 0, .int .i64 0, .int .i64 0] 35)) := (Below.refl _ _).alloc (Nat.le_refl _) _
 have r1 := hp1_0 w (.cells #[.int .i64 0, .int .i64 0, .int .i64 0] 35)
 have hb2 := below_setRow (g := w.heap.size) hb (Nat.le_refl _) #[.int .i64 0, .int .i64 p, .int .i64 e]
 have r2 := setRow_heap _ w.heap.size _ (#[.int .i64 0, .int .i64 p, .int .i64 e]) _ _ r1
 have hone : (#[Value.int .i64 0, .int .i64 p, .int .i64 e] : Array Value).all (·.oneCell') = true := by simp [Value.oneCell']
 have A1 := hide hb2
 have A2 := hide r2
 clear hb hb2 r2
 go_enter Tryz.func91, Tryz.ntmps91
 go_wp2_with (first | (refine wpList_store_row rfl 35 _ _ rfl w.heap.size #[.int .i64 0, .int .i64 p, .int .i64 e] rfl rfl 35 _ r1 infoFt rfl hone ?_) | fail)
 exact bodyPost_ret (v := .agg #[.int .i64 0, .int .i64 p, .int .i64 e]) (results_cell_row Tryz.results91 _ _ w.heap.size _ _ _ _ rfl A2.out Tryz.underlying35 rfl infoFt) rfl ⟨rfl, A1.out⟩
set_option maxRecDepth 100000 in
set_option maxHeartbeats 8000000 in
theorem r_wide (f : Fd) (ao : Option Addr) (cap : Nat) (hf : Fok f) (h0 : 0 ≤ f.no) (h1 : f.no ≤ 536870911) (hk : known f.ty) (w : World) : Calls Tryz.prog 93 #[.agg #[.int .i64 f.no, .int .i64 f.ty, .int .u64 (f.num : Int), .slice ao f.dat.length cap]] w fun e w' => ∃ u, e = .returned u ∧ u = .int .i64 ((fby f).length : Int) ∧ Below w.heap.size w w' := by
 have ht := known_lt hk
 obtain ⟨hf1, hf2, _, _⟩ := hf
 have hhd : (fhd f : Int) = 8 * f.no + f.ty := by unfold fhd; omega
 have hhl : fhd f < 18446744073709551616 := by omega
 have cS := r_size (fhd f) hhl
 have cN := r_size f.num hf1
 have cD := r_sizeX f.dat.length (by omega)
 have hten := en_ten hhl
 have hten2 := en_ten hf1
 have hten3 := en_ten (n := f.dat.length) (by omega)
 have hl : (fby f).length = (en (fhd f)).length + (fvl f).length := by rw [fby, List.length_append]
 have hvl : fvl f = if f.ty = 0 then en f.num else if f.ty = 1 then fx 8 f.num else if f.ty = 5 then fx 4 f.num else itm f.dat := rfl
 have hL0 : f.ty = 0 → (fby f).length = (en (fhd f)).length + (en f.num).length := fun t => by rw [hl, hvl, if_pos t]
 have hL1 : f.ty = 1 → (fby f).length = (en (fhd f)).length + 8 := fun t => by rw [hl, hvl, if_neg (by omega), if_pos t, fx_len]
 have hL5 : f.ty = 5 → (fby f).length = (en (fhd f)).length + 4 := fun t => by rw [hl, hvl, if_neg (by omega), if_neg (by omega), if_pos t, fx_len]
 have hL2 : f.ty = 2 → (fby f).length = (en (fhd f)).length + (en f.dat.length).length + f.dat.length := fun t => by rw [hl, hvl, if_neg (by omega), if_neg (by omega), if_neg (by omega), itm_len]; omega
 unfold known at hk
 generalize (fby f).length = L at *
 clear hvl hl
 generalize (en (fhd f)).length = H at *
 generalize fhd f = HD at *
 generalize f.no = fno at *
 generalize f.ty = fty at *
 generalize f.num = num at *
 generalize f.dat.length = dl at *
 generalize (en dl).length = DL at *
 generalize (en num).length = NL at *
 clear f
 rw [hhd] at cS
 clear hhd hhl HD
 have R0 := hp1_0 w (.cells #[.int .i64 fno, .int .i64 fty, .int .u64 (num : Int), .slice ao dl cap] 72)
 have hw : Below w.heap.size w (w.alloc (.cells #[.int .i64 fno, .int .i64 fty, .int .u64 (num : Int), .slice ao dl cap] 72)) := (Below.refl _ _).alloc (Nat.le_refl _) _
 go_enter Tryz.func93, Tryz.ntmps93
 go_upto_region 1 with (first | (refine wpList_box rfl 72 _ rfl _ rfl (bFld _) ?_) | fail)
 generalize w.alloc (.cells #[.int .i64 fno, .int .i64 fty, .int .u64 (num : Int), .slice ao dl cap] 72) = w1 at *
 have c0 := cell_of_row _ _ 0 _ _ _ R0
 have c1 := cell_of_row _ _ 1 _ _ _ R0
 have cS1 := hide (cS w1)
 clear cS
 go_wp2_with (fail)
 refine cS1.out.mono ?_
 rintro e_ w2 ⟨rfl, hb_⟩
 replace R0 := keep hb_ R0
 replace hw := Below.after hw hb_
 clear hb_ cS1 c0 c1
 rcases hk with t | t | t | t
 ·have e := hide (hL0 t)
  subst t
  have cN3 := hide (cN w2)
  have c1 := cell_of_row _ _ 1 _ _ _ R0
  have c2 := cell_of_row _ _ 2 _ _ _ R0
  clear hL0 hL1 hL2 hL5 cN cD
  go_wp2_with (fail)
  refine cN3.out.mono ?_
  rintro e_ w4 ⟨rfl, hb_⟩
  replace hw := Below.after hw hb_
  clear hb_ cN3
  go_wp2_with (fail)
  go_ret
  exact ⟨_, rfl, by rw [e.out]; go_num, hw⟩
 ·have e := hide (hL1 t)
  subst t
  have c1 := cell_of_row _ _ 1 _ _ _ R0
  clear hL0 hL1 hL2 hL5 cN cD
  go_wp2_with (fail)
  go_ret
  exact ⟨_, rfl, by rw [e.out]; go_num, hw⟩
 ·have e := hide (hL2 t)
  subst t
  have c1 := cell_of_row _ _ 1 _ _ _ R0
  clear hL0 hL1 hL2 hL5 cN
  go_upto_region 9 with (fail)
  clear c1
  have hbd : Below w2.heap.size w2 w2.drew := below_drN (Below.refl _ _) 1
  replace R0 := keep hbd R0
  replace hw := Below.after hw hbd
  clear hbd
  have q0 : IntKind.wrap .u64 (dl : Int) = (dl : Int) := by show (dl : Int) % 18446744073709551616 = dl; omega
  have q1 : IntKind.wrap .i64 ((H : Int) + (DL : Int)) = (H : Int) + (DL : Int) := by rw [IntKind.wrap_i64]; omega
  have q2 : IntKind.wrap .i64 ((H : Int) + (DL : Int) + (dl : Int)) = (H : Int) + (DL : Int) + (dl : Int) := by rw [IntKind.wrap_i64]; omega
  refine wp_region_noPanic ?_
  refine wp_region_held (S := fun W => W.heap[w.heap.size]? = some (.cells #[.int .i64 fno, .int .i64 2, .int .u64 (num : Int), .slice ao dl cap] 72 (0, 0))) (by kernel_rfl) ?_
  change wpAnyH _ _ _ _ _ _ _ _ (World.drew _)
  generalize w2.drew = y1 at *
  refine wpAnyH_take (i := 0) (v := ?v1) rfl (by kernel_rfl) (by kernel_rfl) (by kernel_rfl) (fun _ _ _ h => h) (Or.inl ⟨by rfl, ?y1⟩) R0 ?r1
  case y1 =>
   intro w_ hS_
   go_simp
   try with_reducible rfl
  simp only [Act.put, List.getElem_toArray, List.getElem_cons_zero, List.setIfInBounds_toArray, List.set_cons_succ, List.set_cons_zero]
  refine wpAnyH_take (i := 1) (v := ?v2) rfl (by kernel_rfl) (by kernel_rfl) (by kernel_rfl) (fun _ _ _ h => h) (Or.inl ⟨by rfl, ?y2⟩) R0 ?r2
  case y2 =>
   intro w_ hS_
   go_simp
   try with_reducible rfl
  simp only [Act.put, List.getElem_toArray, List.getElem_cons_succ, List.getElem_cons_zero, List.setIfInBounds_toArray, List.set_cons_succ, List.set_cons_zero]
  refine wpAnyH_take (i := 2) (v := .slice ao dl cap) rfl (by kernel_rfl) (by kernel_rfl) (by kernel_rfl) (fun _ _ _ h => h) (Or.inl ⟨by rfl, ?y3⟩) R0 ?r3
  case y3 =>
   intro w_ hS_
   have c_ := cell_of_row _ _ 3 _ _ _ hS_
   go_simp
   try with_reducible rfl
  simp only [Act.put, List.getElem_toArray, List.getElem_cons_succ, List.getElem_cons_zero, List.setIfInBounds_toArray, List.set_cons_succ, List.set_cons_zero]
  refine wpAnyH_take (i := 3) (v := ?v4) rfl (by kernel_rfl) (by kernel_rfl) (by kernel_rfl) (fun _ _ _ h => h) (Or.inl ⟨by rfl, ?y4⟩) R0 ?r4
  case y4 =>
   intro w_ hS_
   go_simp
   try with_reducible rfl
  simp only [Act.put, List.getElem_toArray, List.getElem_cons_succ, List.getElem_cons_zero, List.setIfInBounds_toArray, List.set_cons_succ, List.set_cons_zero]
  refine wpAnyH_take (i := 4) (v := .int .u64 (dl : Int)) rfl (by kernel_rfl) (by kernel_rfl) (by kernel_rfl) (fun _ _ _ h => h) (Or.inl ⟨by rfl, ?y5⟩) R0 ?r5
  case y5 =>
   intro w_ hS_
   go_simp
   try with_reducible rfl
  simp only [Act.put, List.getElem_toArray, List.getElem_cons_succ, List.getElem_cons_zero, List.setIfInBounds_toArray, List.set_cons_succ, List.set_cons_zero]
  refine wpAnyH_take (i := 7) (v := ?v6) rfl (by kernel_rfl) (by kernel_rfl) (by kernel_rfl) (fun _ _ _ h => h) (Or.inl ⟨by rfl, ?y6⟩) R0 ?r6
  case y6 =>
   intro w_ hS_
   go_simp
   try with_reducible rfl
  simp only [Act.put, List.getElem_toArray, List.getElem_cons_succ, List.getElem_cons_zero, List.setIfInBounds_toArray, List.set_cons_succ, List.set_cons_zero]
  refine wpAnyH_take (i := 8) (v := .slice ao dl cap) rfl (by kernel_rfl) (by kernel_rfl) (by kernel_rfl) (fun _ _ _ h => h) (Or.inl ⟨by rfl, ?y7⟩) R0 ?r7
  case y7 =>
   intro w_ hS_
   have c_ := cell_of_row _ _ 3 _ _ _ hS_
   go_simp
   try with_reducible rfl
  simp only [Act.put, List.getElem_toArray, List.getElem_cons_succ, List.getElem_cons_zero, List.setIfInBounds_toArray, List.set_cons_succ, List.set_cons_zero]
  refine wpAnyH_take (i := 9) (v := ?v8) rfl (by kernel_rfl) (by kernel_rfl) (by kernel_rfl) (fun _ _ _ h => h) (Or.inl ⟨by rfl, ?y8⟩) R0 ?r8
  case y8 =>
   intro w_ hS_
   go_simp
   try with_reducible rfl
  simp only [Act.put, List.getElem_toArray, List.getElem_cons_succ, List.getElem_cons_zero, List.setIfInBounds_toArray, List.set_cons_succ, List.set_cons_zero]
  refine wpAnyH_one (k := 5) (fuel := 3) (by kernel_rfl) rfl (by kernel_rfl) (fun K_ hK => ?_)
  refine wp_call_ex (f := 117) (by kernel_rfl) (cD y1) (fun v_ y2 hX_ => ?_)
  obtain ⟨rfl, hb_⟩ := hX_
  replace R0 := keep hb_ R0
  replace hw := Below.after hw hb_
  clear hb_
  refine hK _ _ R0 ?_
  simp only [Act.put, List.getElem_toArray, List.getElem_cons_succ, List.getElem_cons_zero, List.setIfInBounds_toArray, List.set_cons_succ, List.set_cons_zero]
  clear hK
  refine wpAnyH_take (i := 6) (v := .int .i64 ((H : Int) + (DL : Int))) rfl (by kernel_rfl) (by kernel_rfl) (by kernel_rfl) (fun _ _ _ h => h) (Or.inl ⟨by rfl, ?y9⟩) R0 ?r9
  case y9 =>
   intro w_ hS_
   go_simp
   try with_reducible rfl
  simp only [Act.put, List.getElem_toArray, List.getElem_cons_succ, List.getElem_cons_zero, List.setIfInBounds_toArray, List.set_cons_succ, List.set_cons_zero]
  refine wpAnyH_take (i := 10) (v := .int .i64 ((H : Int) + (DL : Int) + (dl : Int))) rfl (by kernel_rfl) (by kernel_rfl) (by kernel_rfl) (fun _ _ _ h => h) (Or.inl ⟨by rfl, ?y10⟩) R0 ?r10
  case y10 =>
   intro w_ hS_
   go_simp
   try with_reducible rfl
  simp only [Act.put, List.getElem_toArray, List.getElem_cons_succ, List.getElem_cons_zero, List.setIfInBounds_toArray, List.set_cons_succ, List.set_cons_zero]
  refine wpAnyH_take (i := 11) (v := ?v11) rfl (by kernel_rfl) (by kernel_rfl) (by kernel_rfl) (fun _ _ _ h => h) (Or.inl ⟨by rfl, ?y11⟩) R0 ?r11
  case y11 =>
   intro w_ hS_
   go_simp
   try with_reducible rfl
  simp only [Act.put, List.getElem_toArray, List.getElem_cons_succ, List.getElem_cons_zero, List.setIfInBounds_toArray, List.set_cons_succ, List.set_cons_zero]
  refine wpAnyH_done (by kernel_rfl) ?_ _
  refine NoPanic.normal ?_
  go_wp2_with (fail)
  go_ret
  exact ⟨_, rfl, by rw [e.out]; show Value.int .i64 ((H : Int) + (DL : Int) + (dl : Int)) = _; congr 1, hw⟩
 ·have e := hide (hL5 t)
  subst t
  have c1 := cell_of_row _ _ 1 _ _ _ R0
  clear hL0 hL1 hL2 hL5 cN cD
  go_wp2_with (fail)
  go_ret
  exact ⟨_, rfl, by rw [e.out]; go_num, hw⟩
end Go.Proofs.YtjoohgkgkabbpaaGreatDoor
namespace Go.Proofs.YtjoohgkgkabbpaaGreatDoor
set_option maxRecDepth 100000
open Go Go.RowKit Go.Sort
attribute [local go_sem] setCell_drewN alloc_drewN
theorem results_cell_cell {P : Program} {fn : Func} {p q : Tmp} {ty tz : TypeId} (h : fn.results = #[.cell p ty, .cell q tz]) (tmps : Array Value) (w : World) (g g2 : Nat) (t t2 : TypeId) (cs cs2 : Array Value) (fr fr2 : Nat × Nat) (d d2 : TypeDesc)
 (hp : tmps.getD p undef = .pointer (some ⟨g, 0, none⟩)) (hg : w.heap[g]? = some (.cells cs t fr)) (hu : P.underlying ty = some d) (hd : (match d with | .struct _ | .array _ _ => true | _ => false) = true) (hi : (P.info? ty).map (·.size) = some cs.size)
 (hp2 : tmps.getD q undef = .pointer (some ⟨g2, 0, none⟩)) (hg2 : w.heap[g2]? = some (.cells cs2 t2 fr2)) (hu2 : P.underlying tz = some d2) (hd2 : (match d2 with | .struct _ | .array _ _ => true | _ => false) = true) (hi2 : (P.info? tz).map (·.size) = some cs2.size) :
 (results fn tmps).run P w = .ok (.tuple #[.agg cs, .agg cs2]) w := by
 have hp' : tmps[p]?.getD undef = .pointer (some ⟨g, 0, none⟩) := by simpa using hp
 have hp2' : tmps[q]?.getD undef = .pointer (some ⟨g2, 0, none⟩) := by simpa using hp2
 simp [results, h, hp', hp2', asAddr, run_loadVar_row w g t ty cs fr d hg hu hd hi, run_loadVar_row w g2 t2 tz cs2 fr2 d2 hg2 hu2 hd2 hi2]
theorem builtZvR : Tryz.prog.built 78 [] = some #[.int .u64 0, .slice none 0 0, .slice none 0 0] := by kernel_rfl
theorem builtZeR : Tryz.prog.built 35 [] = some #[.int .i64 0, .int .i64 0, .int .i64 0] := by kernel_rfl
set_option maxRecDepth 100000 in
set_option maxHeartbeats 8000000 in
theorem r_value (no k l m : Int) (hk8 : k ≠ 8) (hk9 : k ≠ 9) (so : Option Addr) (sn sc : Nat) (fno fty : Int) (num : Nat) (da : Option Addr) (dl dc : Nat) (here data E : Int) (w : World)
 (cP : ∀ W, Calls Tryz.prog 118 #[.agg #[.int .i64 no, .int .i64 k, .int .u64 l, .int .u64 m, .slice so sn sc], .agg #[.int .u64 (num : Int), .slice da dl dc, .slice none 0 0]] W fun e w' => e = .returned (.int .i64 E) ∧ Below W.heap.size W w') :
 Calls Tryz.prog 94 #[.agg #[.int .i64 no, .int .i64 k, .int .u64 l, .int .u64 m, .slice so sn sc], .agg #[.int .i64 fno, .int .i64 fty, .int .u64 (num : Int), .slice da dl dc], .int .i64 here, .int .i64 data] w fun e w' => ∃ v, e = .returned v ∧ v = (if E = 0 then .tuple #[.agg #[.int .u64 (num : Int), .slice da dl dc, .slice none 0 0], .agg #[.int .i64 0, .int .i64 0, .int .i64 0]] else .tuple #[.agg #[.int .u64 0, .slice none 0 0, .slice none 0 0], .agg #[.int .i64 0, .int .i64 here, .int .i64 E]]) ∧ Below w.heap.size w w' := by
 have RS := hp2_0 w (.cells #[.int .i64 no, .int .i64 k, .int .u64 l, .int .u64 m, .slice so sn sc] 114) (.cells #[.int .i64 fno, .int .i64 fty, .int .u64 (num : Int), .slice da dl dc] 72)
 have RF := hp2_1 w (.cells #[.int .i64 no, .int .i64 k, .int .u64 l, .int .u64 m, .slice so sn sc] 114) (.cells #[.int .i64 fno, .int .i64 fty, .int .u64 (num : Int), .slice da dl dc] 72)
 have hw : Below w.heap.size w ((w.alloc (.cells #[.int .i64 no, .int .i64 k, .int .u64 l, .int .u64 m, .slice so sn sc] 114)).alloc (.cells #[.int .i64 fno, .int .i64 fty, .int .u64 (num : Int), .slice da dl dc] 72)) := ((Below.refl _ _).alloc (Nat.le_refl _) _).alloc (by simp) _
 have hsz : ((w.alloc (.cells #[.int .i64 no, .int .i64 k, .int .u64 l, .int .u64 m, .slice so sn sc] 114)).alloc (.cells #[.int .i64 fno, .int .i64 fty, .int .u64 (num : Int), .slice da dl dc] 72)).heap.size = w.heap.size + 1 + 1 := by simp
 have hb2 : Below ((w.alloc (.cells #[.int .i64 no, .int .i64 k, .int .u64 l, .int .u64 m, .slice so sn sc] 114)).alloc (.cells #[.int .i64 fno, .int .i64 fty, .int .u64 (num : Int), .slice da dl dc] 72)).heap.size ((w.alloc (.cells #[.int .i64 no, .int .i64 k, .int .u64 l, .int .u64 m, .slice so sn sc] 114)).alloc (.cells #[.int .i64 fno, .int .i64 fty, .int .u64 (num : Int), .slice da dl dc] 72)) ((((w.alloc (.cells #[.int .i64 no, .int .i64 k, .int .u64 l, .int .u64 m, .slice so sn sc] 114)).alloc (.cells #[.int .i64 fno, .int .i64 fty, .int .u64 (num : Int), .slice da dl dc] 72)).alloc (.cells #[.int .u64 0, .slice none 0 0, .slice none 0 0] 78)).alloc (.cells #[.int .i64 0, .int .i64 0, .int .i64 0] 35)) := ((Below.refl _ _).alloc (Nat.le_refl _) _).alloc (by simp) _
 have RV := hp2_0 ((w.alloc (.cells #[.int .i64 no, .int .i64 k, .int .u64 l, .int .u64 m, .slice so sn sc] 114)).alloc (.cells #[.int .i64 fno, .int .i64 fty, .int .u64 (num : Int), .slice da dl dc] 72)) (.cells #[.int .u64 0, .slice none 0 0, .slice none 0 0] 78) (.cells #[.int .i64 0, .int .i64 0, .int .i64 0] 35)
 have RE := hp2_1 ((w.alloc (.cells #[.int .i64 no, .int .i64 k, .int .u64 l, .int .u64 m, .slice so sn sc] 114)).alloc (.cells #[.int .i64 fno, .int .i64 fty, .int .u64 (num : Int), .slice da dl dc] 72)) (.cells #[.int .u64 0, .slice none 0 0, .slice none 0 0] 78) (.cells #[.int .i64 0, .int .i64 0, .int .i64 0] 35)
 rw [hsz] at RV RE
 replace RS := keep hb2 RS
 replace RF := keep hb2 RF
 replace hw := Below.after hw hb2
 have oneV : (#[Value.int .u64 0, .slice none 0 0, .slice none 0 0] : Array Value).all (·.oneCell') = true := by simp [Value.oneCell']
 have oneN : (#[Value.int .u64 (num : Int), .slice da dl dc, .slice none 0 0] : Array Value).all (·.oneCell') = true := by simp [Value.oneCell']
 have oneZ : (#[Value.int .i64 0, .int .i64 0, .int .i64 0] : Array Value).all (·.oneCell') = true := by simp [Value.oneCell']
 have oneE : (#[Value.int .i64 0, .int .i64 here, .int .i64 E] : Array Value).all (·.oneCell') = true := by simp [Value.oneCell']
 clear hb2 hsz
 go_enter Tryz.func94, Tryz.ntmps94
 go_upto_region 1 with (first | (refine wpList_box rfl 114 _ rfl _ rfl (bSl _) ?_) | (refine wpList_box rfl 72 _ rfl _ rfl (bFld _) ?_) | fail)
 generalize (((w.alloc (.cells #[.int .i64 no, .int .i64 k, .int .u64 l, .int .u64 m, .slice so sn sc] 114)).alloc (.cells #[.int .i64 fno, .int .i64 fty, .int .u64 (num : Int), .slice da dl dc] 72)).alloc (.cells #[.int .u64 0, .slice none 0 0, .slice none 0 0] 78)).alloc (.cells #[.int .i64 0, .int .i64 0, .int .i64 0] 35) = w4 at *
 have ck := cell_of_row _ _ 1 _ _ _ RS
 have c2 := cell_of_row _ _ 2 _ _ _ RF
 have c3 := cell_of_row _ _ 3 _ _ _ RF
 have RN := hp1_0 w4 (.cells #[.int .u64 (num : Int), .slice da dl dc, .slice none 0 0] 78)
 have hb5 : Below w4.heap.size w4 (w4.alloc (.cells #[.int .u64 (num : Int), .slice da dl dc, .slice none 0 0] 78)) := (Below.refl _ _).alloc (Nat.le_refl _) _
 have d8 : decide (k = 8) = false := by simpa using hk8
 have d9 : decide (k = 9) = false := by simpa using hk9
 go_upto_region 5 with (fail)
 try simp only [Act.put, List.setIfInBounds_toArray, List.set_cons_succ, List.set_cons_zero]
 clear ck c2 c3
 replace RS := keep hb5 RS
 replace RF := keep hb5 RF
 replace RV := keep hb5 RV
 replace RE := keep hb5 RE
 replace hw := Below.after hw hb5
 clear hb5
 generalize w4.alloc (.cells #[.int .u64 (num : Int), .slice da dl dc, .slice none 0 0] 78) = w6 at *
 generalize w4.heap.size = gn at *
 have cP6 := hide (cP w6)
 clear cP
 go_wp2_with (first | (refine wpList_load_want rfl 114 _ rfl (w.heap.size) rfl 114 #[.int .i64 no, .int .i64 k, .int .u64 l, .int .u64 m, .slice so sn sc] (0, 0) _ RS Tryz.underlying114 rfl infoSlt ?_) | (refine wpList_load_want rfl 78 _ rfl gn rfl 78 #[.int .u64 (num : Int), .slice da dl dc, .slice none 0 0] (0, 0) _ RN Tryz.underlying78 rfl infoV ?_) | fail)
 refine cP6.out.mono ?_
 rintro e_ w7 ⟨rfl, hb_⟩
 replace RN := keep hb_ RN
 replace RV := keep hb_ RV
 replace RE := keep hb_ RE
 replace hw := Below.after hw hb_
 clear hb_ cP6 RS RF
 by_cases hE : E = 0
 ·subst hE
  have R8 := RV
  have R9 := RE
  go_upto_region 8 with (fail)
  go_wp2_with (first | (refine wpList_load_want rfl 78 _ rfl gn rfl 78 #[.int .u64 (num : Int), .slice da dl dc, .slice none 0 0] (0, 0) _ RN Tryz.underlying78 rfl infoV ?_) | (refine wpList_build_want rfl 35 _ rfl [] rfl #[.int .i64 0, .int .i64 0, .int .i64 0] builtZeR ?_) | (refine wpList_store_row rfl 78 _ _ rfl (w.heap.size + 1 + 1) #[.int .u64 (num : Int), .slice da dl dc, .slice none 0 0] rfl rfl 78 _ RV infoV rfl oneN ?_) | (refine wpList_store_row rfl 35 _ _ rfl (w.heap.size + 1 + 1 + 1) #[.int .i64 0, .int .i64 0, .int .i64 0] rfl rfl 35 _ ((setRow_other w7 (w.heap.size + 1 + 1) (w.heap.size + 1 + 1 + 1) #[.int .u64 (num : Int), .slice da dl dc, .slice none 0 0] (by omega)).trans RE) infoFt rfl oneZ ?_) | fail)
  clear R8 R9
  replace RE := (setRow_other w7 (w.heap.size + 1 + 1) (w.heap.size + 1 + 1 + 1) #[.int .u64 (num : Int), .slice da dl dc, .slice none 0 0] (by omega)).trans RE
  replace RV := setRow_heap w7 (w.heap.size + 1 + 1) _ (#[.int .u64 (num : Int), .slice da dl dc, .slice none 0 0]) _ _ RV
  replace hw := below_setRow hw (show w.heap.size ≤ w.heap.size + 1 + 1 by omega) #[.int .u64 (num : Int), .slice da dl dc, .slice none 0 0]
  generalize w7.setRow (w.heap.size + 1 + 1) #[.int .u64 (num : Int), .slice da dl dc, .slice none 0 0] = w8 at *
  replace RV := (setRow_other w8 (w.heap.size + 1 + 1 + 1) (w.heap.size + 1 + 1) #[.int .i64 0, .int .i64 0, .int .i64 0] (by omega)).trans RV
  replace RE := setRow_heap w8 (w.heap.size + 1 + 1 + 1) _ (#[.int .i64 0, .int .i64 0, .int .i64 0]) _ _ RE
  replace hw := below_setRow hw (show w.heap.size ≤ w.heap.size + 1 + 1 + 1 by omega) #[.int .i64 0, .int .i64 0, .int .i64 0]
  exact bodyPost_ret (v := .tuple #[.agg #[.int .u64 (num : Int), .slice da dl dc, .slice none 0 0], .agg #[.int .i64 0, .int .i64 0, .int .i64 0]]) (results_cell_cell Tryz.results94 _ _ (w.heap.size + 1 + 1) (w.heap.size + 1 + 1 + 1) _ _ _ _ _ _ _ _ rfl RV Tryz.underlying78 rfl infoV rfl RE Tryz.underlying35 rfl infoFt) rfl ⟨_, rfl, rfl, hw⟩
 ·have dE : decide (E = 0) = false := by simpa using hE
  have cA := hide (r_at here E w7)
  go_wp2_with (first | (refine wpList_build_want rfl 78 _ rfl [] rfl #[.int .u64 0, .slice none 0 0, .slice none 0 0] builtZvR ?_) | fail)
  refine cA.out.mono ?_
  rintro e_ w8 ⟨rfl, hb_⟩
  replace RV := keep hb_ RV
  replace RE := keep hb_ RE
  replace hw := Below.after hw hb_
  clear hb_ cA RN
  go_wp2_with (first | (refine wpList_store_row rfl 78 _ _ rfl (w.heap.size + 1 + 1) #[.int .u64 0, .slice none 0 0, .slice none 0 0] rfl rfl 78 _ RV infoV rfl oneV ?_) | (refine wpList_store_row rfl 35 _ _ rfl (w.heap.size + 1 + 1 + 1) #[.int .i64 0, .int .i64 here, .int .i64 E] rfl rfl 35 _ ((setRow_other w8 (w.heap.size + 1 + 1) (w.heap.size + 1 + 1 + 1) #[.int .u64 0, .slice none 0 0, .slice none 0 0] (by omega)).trans RE) infoFt rfl oneE ?_) | fail)
  replace RE := (setRow_other w8 (w.heap.size + 1 + 1) (w.heap.size + 1 + 1 + 1) #[.int .u64 0, .slice none 0 0, .slice none 0 0] (by omega)).trans RE
  replace RV := setRow_heap w8 (w.heap.size + 1 + 1) _ (#[.int .u64 0, .slice none 0 0, .slice none 0 0]) _ _ RV
  replace hw := below_setRow hw (show w.heap.size ≤ w.heap.size + 1 + 1 by omega) #[.int .u64 0, .slice none 0 0, .slice none 0 0]
  generalize w8.setRow (w.heap.size + 1 + 1) #[.int .u64 0, .slice none 0 0, .slice none 0 0] = w9 at *
  replace RV := (setRow_other w9 (w.heap.size + 1 + 1 + 1) (w.heap.size + 1 + 1) #[.int .i64 0, .int .i64 here, .int .i64 E] (by omega)).trans RV
  replace RE := setRow_heap w9 (w.heap.size + 1 + 1 + 1) _ (#[.int .i64 0, .int .i64 here, .int .i64 E]) _ _ RE
  replace hw := below_setRow hw (show w.heap.size ≤ w.heap.size + 1 + 1 + 1 by omega) #[.int .i64 0, .int .i64 here, .int .i64 E]
  exact bodyPost_ret (v := .tuple #[.agg #[.int .u64 0, .slice none 0 0, .slice none 0 0], .agg #[.int .i64 0, .int .i64 here, .int .i64 E]]) (results_cell_cell Tryz.results94 _ _ (w.heap.size + 1 + 1) (w.heap.size + 1 + 1 + 1) _ _ _ _ _ _ _ _ rfl RV Tryz.underlying78 rfl infoV rfl RE Tryz.underlying35 rfl infoFt) rfl ⟨_, rfl, rfl, hw⟩
end Go.Proofs.YtjoohgkgkabbpaaGreatDoor
namespace Go.Proofs.YtjoohgkgkabbpaaGreatDoor
set_option maxRecDepth 100000
open Go Go.RowKit Go.Sort
attribute [local go_sem] setCell_drewN alloc_drewN
section
variable {P : Program} {ops : Array Oper} {Q : Exit → Act → World → Prop} {md : Region.Mode} {S : World → Prop}
theorem wpAnyH_three {j k l : Nat} {oj ok ol : Oper} {fuel : Nat} {listed : Array Bool} {a : Act} {w : World} (hr : Region.ready md ops listed = [j, k, l]) (hj : ops[j]? = some oj) (hk : ops[k]? = some ok) (hl : ops[l]? = some ol) (wj : Region.wanted oj (yielded ops a.tmps) = true) (wk : Region.wanted ok (yielded ops a.tmps) = true) (wl : Region.wanted ol (yielded ops a.tmps) = true)
 (h1 : ∀ K : Act → World → Prop, (∀ a' w', S w' → wpAnyH P md ops Q S fuel (listed.setIfInBounds j true) a' w' → K a' w') → oj.wp P a w K Q)
 (h2 : ∀ K : Act → World → Prop, (∀ a' w', S w' → wpAnyH P md ops Q S fuel (listed.setIfInBounds k true) a' w' → K a' w') → ok.wp P a w K Q)
 (h3 : ∀ K : Act → World → Prop, (∀ a' w', S w' → wpAnyH P md ops Q S fuel (listed.setIfInBounds l true) a' w' → K a' w') → ol.wp P a w K Q) : wpAnyH P md ops Q S (fuel + 1) listed a w := by
 refine wpAnyH_all hr (by simp) (fun i hi' => ?_)
 obtain rfl | rfl | rfl : i = j ∨ i = k ∨ i = l := by simpa using hi'
 ·unfold wpOp
  simp only [hj, wj, if_true]
  exact .inl (h1 _ (fun a' w' hS hn => ⟨hS, hn⟩))
 ·unfold wpOp
  simp only [hk, wk, if_true]
  exact .inl (h2 _ (fun a' w' hS hn => ⟨hS, hn⟩))
 ·unfold wpOp
  simp only [hl, wl, if_true]
  exact .inl (h3 _ (fun a' w' hS hn => ⟨hS, hn⟩))
end
end Go.Proofs.YtjoohgkgkabbpaaGreatDoor

