import Derived.Test.YtjoohgkgkabbpaaGreatDoorVQb5
import Derived.OwnWalk
import Derived.Deep.Cut
import Derived.Deep.RegionHeld3
import Derived.Test.YtjoohgkgkabbpaaGreatDoorVQb4
namespace Go.Proofs.YtjoohgkgkabbpaaGreatDoor
set_option maxRecDepth 100000
open Go Go.RowKit Go.Sort
attribute [local go_sem] setCell_drewN alloc_drewN
theorem results_cell_cell {P : Program} {fn : Func} {p q : Tmp} {ty tz : TypeId} (h : fn.results = #[.cell p ty, .cell q tz]) (tmps : Array Value) (w : World) (g g2 : Nat) (t t2 : TypeId) (cs cs2 : Array Value) (fr fr2 : Nat × Nat) (d d2 : TypeDesc)
 (hp : tmps.getD p undef = .pointer (some ⟨g, 0, none⟩)) (hg : w.heap[g]? = some (.cells cs t fr)) (hu : P.underlying ty = some d) (hd : (match d with | .struct _ | .array _ _ => true | _ => false) = true) (hi : (P.info? ty).map (·.size) = some cs.size)
 (hp2 : tmps.getD q undef = .pointer (some ⟨g2, 0, none⟩)) (hg2 : w.heap[g2]? = some (.cells cs2 t2 fr2)) (hu2 : P.underlying tz = some d2) (hd2 : (match d2 with | .struct _ | .array _ _ => true | _ => false) = true) (hi2 : (P.info? tz).map (·.size) = some cs2.size) :
 (results fn tmps).run P w = .ok (.tuple #[.agg cs, .agg cs2]) w := by
 have hp' : tmps[p]?.getD undef = .pointer (some ⟨g, 0, none⟩) := by simpa using hp
 have hp2' : tmps[q]?.getD undef = .pointer (some ⟨g2, 0, none⟩) := by simpa using hp2
 simp [results, h, hp', hp2', asAddr, run_loadVar_row w g t ty cs fr d hg hu hd hi, run_loadVar_row w g2 t2 tz cs2 fr2 d2 hg2 hu2 hd2 hi2]
theorem builtZvR : Tryz.prog.built 78 [] = some #[.int .u64 0, .slice none 0 0, .slice none 0 0] := by kernel_rfl
theorem builtZeR : Tryz.prog.built 35 [] = some #[.int .i64 0, .int .i64 0, .int .i64 0] := by kernel_rfl
set_option maxRecDepth 100000 in
set_option maxHeartbeats 8000000 in
theorem r_value (no k l m : Int) (hk8 : k ≠ 8) (hk9 : k ≠ 9) (so : Option Addr) (sn sc : Nat) (fno fty : Int) (num : Nat) (da : Option Addr) (dl dc : Nat) (here data E : Int) (w : World)
 (cP : ∀ W, Calls Tryz.prog 118 #[.agg #[.int .i64 no, .int .i64 k, .int .u64 l, .int .u64 m, .slice so sn sc], .agg #[.int .u64 (num : Int), .slice da dl dc, .slice none 0 0]] W fun e w' => e = .returned (.int .i64 E) ∧ Below W.heap.size W w') :
 Calls Tryz.prog 94 #[.agg #[.int .i64 no, .int .i64 k, .int .u64 l, .int .u64 m, .slice so sn sc], .agg #[.int .i64 fno, .int .i64 fty, .int .u64 (num : Int), .slice da dl dc], .int .i64 here, .int .i64 data] w fun e w' => ∃ v, e = .returned v ∧ v = (if E = 0 then .tuple #[.agg #[.int .u64 (num : Int), .slice da dl dc, .slice none 0 0], .agg #[.int .i64 0, .int .i64 0, .int .i64 0]] else .tuple #[.agg #[.int .u64 0, .slice none 0 0, .slice none 0 0], .agg #[.int .i64 0, .int .i64 here, .int .i64 E]]) ∧ Below w.heap.size w w' := by
 have RS := hp2_0 w (.cells #[.int .i64 no, .int .i64 k, .int .u64 l, .int .u64 m, .slice so sn sc] 114) (.cells #[.int .i64 fno, .int .i64 fty, .int .u64 (num : Int), .slice da dl dc] 72)
 have RF := hp2_1 w (.cells #[.int .i64 no, .int .i64 k, .int .u64 l, .int .u64 m, .slice so sn sc] 114) (.cells #[.int .i64 fno, .int .i64 fty, .int .u64 (num : Int), .slice da dl dc] 72)
 have hw : Below w.heap.size w ((w.alloc (.cells #[.int .i64 no, .int .i64 k, .int .u64 l, .int .u64 m, .slice so sn sc] 114)).alloc (.cells #[.int .i64 fno, .int .i64 fty, .int .u64 (num : Int), .slice da dl dc] 72)) := ((Below.refl _ _).alloc (Nat.le_refl _) _).alloc (by simp) _
 have hsz : ((w.alloc (.cells #[.int .i64 no, .int .i64 k, .int .u64 l, .int .u64 m, .slice so sn sc] 114)).alloc (.cells #[.int .i64 fno, .int .i64 fty, .int .u64 (num : Int), .slice da dl dc] 72)).heap.size = w.heap.size + 1 + 1 := by simp
 have hb2 : Below ((w.alloc (.cells #[.int .i64 no, .int .i64 k, .int .u64 l, .int .u64 m, .slice so sn sc] 114)).alloc (.cells #[.int .i64 fno, .int .i64 fty, .int .u64 (num : Int), .slice da dl dc] 72)).heap.size ((w.alloc (.cells #[.int .i64 no, .int .i64 k, .int .u64 l, .int .u64 m, .slice so sn sc] 114)).alloc (.cells #[.int .i64 fno, .int .i64 fty, .int .u64 (num : Int), .slice da dl dc] 72)) ((((w.alloc (.cells #[.int .i64 no, .int .i64 k, .int .u64 l, .int .u64 m, .slice so sn sc] 114)).alloc (.cells #[.int .i64 fno, .int .i64 fty, .int .u64 (num : Int), .slice da dl dc] 72)).alloc (.cells #[.int .u64 0, .slice none 0 0, .slice none 0 0] 78)).alloc (.cells #[.int .i64 0, .int .i64 0, .int .i64 0] 35)) := ((Below.refl _ _).alloc (Nat.le_refl _) _).alloc (by simp) _
 have RV := hp2_0 ((w.alloc (.cells #[.int .i64 no, .int .i64 k, .int .u64 l, .int .u64 m, .slice so sn sc] 114)).alloc (.cells #[.int .i64 fno, .int .i64 fty, .int .u64 (num : Int), .slice da dl dc] 72)) (.cells #[.int .u64 0, .slice none 0 0, .slice none 0 0] 78) (.cells #[.int .i64 0, .int .i64 0, .int .i64 0] 35)
 have RE := hp2_1 ((w.alloc (.cells #[.int .i64 no, .int .i64 k, .int .u64 l, .int .u64 m, .slice so sn sc] 114)).alloc (.cells #[.int .i64 fno, .int .i64 fty, .int .u64 (num : Int), .slice da dl dc] 72)) (.cells #[.int .u64 0, .slice none 0 0, .slice none 0 0] 78) (.cells #[.int .i64 0, .int .i64 0, .int .i64 0] 35)
 rw [hsz] at RV RE
 replace RS := keep hb2 RS
 replace RF := keep hb2 RF
 replace hw := Below.after hw hb2
 have oneV : (#[Value.int .u64 0, .slice none 0 0, .slice none 0 0] : Array Value).all (·.oneCell') = true := by simp [Value.oneCell']
 have oneN : (#[Value.int .u64 (num : Int), .slice da dl dc, .slice none 0 0] : Array Value).all (·.oneCell') = true := by simp [Value.oneCell']
 have oneZ : (#[Value.int .i64 0, .int .i64 0, .int .i64 0] : Array Value).all (·.oneCell') = true := by simp [Value.oneCell']
 have oneE : (#[Value.int .i64 0, .int .i64 here, .int .i64 E] : Array Value).all (·.oneCell') = true := by simp [Value.oneCell']
 clear hb2 hsz
 go_enter Tryz.func94, Tryz.ntmps94
 go_upto_region 1 with (first | (refine wpList_box rfl 114 _ rfl _ rfl (bSl _) ?_) | (refine wpList_box rfl 72 _ rfl _ rfl (bFld _) ?_) | fail)
 generalize (((w.alloc (.cells #[.int .i64 no, .int .i64 k, .int .u64 l, .int .u64 m, .slice so sn sc] 114)).alloc (.cells #[.int .i64 fno, .int .i64 fty, .int .u64 (num : Int), .slice da dl dc] 72)).alloc (.cells #[.int .u64 0, .slice none 0 0, .slice none 0 0] 78)).alloc (.cells #[.int .i64 0, .int .i64 0, .int .i64 0] 35) = w4 at *
 have ck := cell_of_row _ _ 1 _ _ _ RS
 have c2 := cell_of_row _ _ 2 _ _ _ RF
 have c3 := cell_of_row _ _ 3 _ _ _ RF
 have RN := hp1_0 w4 (.cells #[.int .u64 (num : Int), .slice da dl dc, .slice none 0 0] 78)
 have hb5 : Below w4.heap.size w4 (w4.alloc (.cells #[.int .u64 (num : Int), .slice da dl dc, .slice none 0 0] 78)) := (Below.refl _ _).alloc (Nat.le_refl _) _
 have d8 : decide (k = 8) = false := by simpa using hk8
 have d9 : decide (k = 9) = false := by simpa using hk9
 go_upto_region 5 with (fail)
 try simp only [Act.put, List.setIfInBounds_toArray, List.set_cons_succ, List.set_cons_zero]
 clear ck c2 c3
 replace RS := keep hb5 RS
 replace RF := keep hb5 RF
 replace RV := keep hb5 RV
 replace RE := keep hb5 RE
 replace hw := Below.after hw hb5
 clear hb5
 generalize w4.alloc (.cells #[.int .u64 (num : Int), .slice da dl dc, .slice none 0 0] 78) = w6 at *
 generalize w4.heap.size = gn at *
 have cP6 := hide (cP w6)
 clear cP
 go_wp2_with (first | (refine wpList_load_want rfl 114 _ rfl (w.heap.size) rfl 114 #[.int .i64 no, .int .i64 k, .int .u64 l, .int .u64 m, .slice so sn sc] (0, 0) _ RS Tryz.underlying114 rfl infoSlt ?_) | (refine wpList_load_want rfl 78 _ rfl gn rfl 78 #[.int .u64 (num : Int), .slice da dl dc, .slice none 0 0] (0, 0) _ RN Tryz.underlying78 rfl infoV ?_) | fail)
 refine cP6.out.mono ?_
 rintro e_ w7 ⟨rfl, hb_⟩
 replace RN := keep hb_ RN
 replace RV := keep hb_ RV
 replace RE := keep hb_ RE
 replace hw := Below.after hw hb_
 clear hb_ cP6 RS RF
 by_cases hE : E = 0
 ·subst hE
  have R8 := RV
  have R9 := RE
  go_upto_region 8 with (fail)
  go_wp2_with (first | (refine wpList_load_want rfl 78 _ rfl gn rfl 78 #[.int .u64 (num : Int), .slice da dl dc, .slice none 0 0] (0, 0) _ RN Tryz.underlying78 rfl infoV ?_) | (refine wpList_build_want rfl 35 _ rfl [] rfl #[.int .i64 0, .int .i64 0, .int .i64 0] builtZeR ?_) | (refine wpList_store_row rfl 78 _ _ rfl (w.heap.size + 1 + 1) #[.int .u64 (num : Int), .slice da dl dc, .slice none 0 0] rfl rfl 78 _ RV infoV rfl oneN ?_) | (refine wpList_store_row rfl 35 _ _ rfl (w.heap.size + 1 + 1 + 1) #[.int .i64 0, .int .i64 0, .int .i64 0] rfl rfl 35 _ ((setRow_other w7 (w.heap.size + 1 + 1) (w.heap.size + 1 + 1 + 1) #[.int .u64 (num : Int), .slice da dl dc, .slice none 0 0] (by omega)).trans RE) infoFt rfl oneZ ?_) | fail)
  clear R8 R9
  replace RE := (setRow_other w7 (w.heap.size + 1 + 1) (w.heap.size + 1 + 1 + 1) #[.int .u64 (num : Int), .slice da dl dc, .slice none 0 0] (by omega)).trans RE
  replace RV := setRow_heap w7 (w.heap.size + 1 + 1) _ (#[.int .u64 (num : Int), .slice da dl dc, .slice none 0 0]) _ _ RV
  replace hw := below_setRow hw (show w.heap.size ≤ w.heap.size + 1 + 1 by omega) #[.int .u64 (num : Int), .slice da dl dc, .slice none 0 0]
  generalize w7.setRow (w.heap.size + 1 + 1) #[.int .u64 (num : Int), .slice da dl dc, .slice none 0 0] = w8 at *
  replace RV := (setRow_other w8 (w.heap.size + 1 + 1 + 1) (w.heap.size + 1 + 1) #[.int .i64 0, .int .i64 0, .int .i64 0] (by omega)).trans RV
  replace RE := setRow_heap w8 (w.heap.size + 1 + 1 + 1) _ (#[.int .i64 0, .int .i64 0, .int .i64 0]) _ _ RE
  replace hw := below_setRow hw (show w.heap.size ≤ w.heap.size + 1 + 1 + 1 by omega) #[.int .i64 0, .int .i64 0, .int .i64 0]
  exact bodyPost_ret (v := .tuple #[.agg #[.int .u64 (num : Int), .slice da dl dc, .slice none 0 0], .agg #[.int .i64 0, .int .i64 0, .int .i64 0]]) (results_cell_cell Tryz.results94 _ _ (w.heap.size + 1 + 1) (w.heap.size + 1 + 1 + 1) _ _ _ _ _ _ _ _ rfl RV Tryz.underlying78 rfl infoV rfl RE Tryz.underlying35 rfl infoFt) rfl ⟨_, rfl, rfl, hw⟩
 ·have dE : decide (E = 0) = false := by simpa using hE
  have cA := hide (r_at here E w7)
  go_wp2_with (first | (refine wpList_build_want rfl 78 _ rfl [] rfl #[.int .u64 0, .slice none 0 0, .slice none 0 0] builtZvR ?_) | fail)
  refine cA.out.mono ?_
  rintro e_ w8 ⟨rfl, hb_⟩
  replace RV := keep hb_ RV
  replace RE := keep hb_ RE
  replace hw := Below.after hw hb_
  clear hb_ cA RN
  go_wp2_with (first | (refine wpList_store_row rfl 78 _ _ rfl (w.heap.size + 1 + 1) #[.int .u64 0, .slice none 0 0, .slice none 0 0] rfl rfl 78 _ RV infoV rfl oneV ?_) | (refine wpList_store_row rfl 35 _ _ rfl (w.heap.size + 1 + 1 + 1) #[.int .i64 0, .int .i64 here, .int .i64 E] rfl rfl 35 _ ((setRow_other w8 (w.heap.size + 1 + 1) (w.heap.size + 1 + 1 + 1) #[.int .u64 0, .slice none 0 0, .slice none 0 0] (by omega)).trans RE) infoFt rfl oneE ?_) | fail)
  replace RE := (setRow_other w8 (w.heap.size + 1 + 1) (w.heap.size + 1 + 1 + 1) #[.int .u64 0, .slice none 0 0, .slice none 0 0] (by omega)).trans RE
  replace RV := setRow_heap w8 (w.heap.size + 1 + 1) _ (#[.int .u64 0, .slice none 0 0, .slice none 0 0]) _ _ RV
  replace hw := below_setRow hw (show w.heap.size ≤ w.heap.size + 1 + 1 by omega) #[.int .u64 0, .slice none 0 0, .slice none 0 0]
  generalize w8.setRow (w.heap.size + 1 + 1) #[.int .u64 0, .slice none 0 0, .slice none 0 0] = w9 at *
  replace RV := (setRow_other w9 (w.heap.size + 1 + 1 + 1) (w.heap.size + 1 + 1) #[.int .i64 0, .int .i64 here, .int .i64 E] (by omega)).trans RV
  replace RE := setRow_heap w9 (w.heap.size + 1 + 1 + 1) _ (#[.int .i64 0, .int .i64 here, .int .i64 E]) _ _ RE
  replace hw := below_setRow hw (show w.heap.size ≤ w.heap.size + 1 + 1 + 1 by omega) #[.int .i64 0, .int .i64 here, .int .i64 E]
  exact bodyPost_ret (v := .tuple #[.agg #[.int .u64 0, .slice none 0 0, .slice none 0 0], .agg #[.int .i64 0, .int .i64 here, .int .i64 E]]) (results_cell_cell Tryz.results94 _ _ (w.heap.size + 1 + 1) (w.heap.size + 1 + 1 + 1) _ _ _ _ _ _ _ _ rfl RV Tryz.underlying78 rfl infoV rfl RE Tryz.underlying35 rfl infoFt) rfl ⟨_, rfl, rfl, hw⟩
end Go.Proofs.YtjoohgkgkabbpaaGreatDoor
namespace Go.Proofs.YtjoohgkgkabbpaaGreatDoor
set_option maxRecDepth 100000
open Go Go.RowKit Go.Sort
attribute [local go_sem] setCell_drewN alloc_drewN
section
variable {P : Program} {ops : Array Oper} {Q : Exit → Act → World → Prop} {md : Region.Mode} {S : World → Prop}
theorem wpAnyH_three {j k l : Nat} {oj ok ol : Oper} {fuel : Nat} {listed : Array Bool} {a : Act} {w : World} (hr : Region.ready md ops listed = [j, k, l]) (hj : ops[j]? = some oj) (hk : ops[k]? = some ok) (hl : ops[l]? = some ol) (wj : Region.wanted oj (yielded ops a.tmps) = true) (wk : Region.wanted ok (yielded ops a.tmps) = true) (wl : Region.wanted ol (yielded ops a.tmps) = true)
 (h1 : ∀ K : Act → World → Prop, (∀ a' w', S w' → wpAnyH P md ops Q S fuel (listed.setIfInBounds j true) a' w' → K a' w') → oj.wp P a w K Q)
 (h2 : ∀ K : Act → World → Prop, (∀ a' w', S w' → wpAnyH P md ops Q S fuel (listed.setIfInBounds k true) a' w' → K a' w') → ok.wp P a w K Q)
 (h3 : ∀ K : Act → World → Prop, (∀ a' w', S w' → wpAnyH P md ops Q S fuel (listed.setIfInBounds l true) a' w' → K a' w') → ol.wp P a w K Q) : wpAnyH P md ops Q S (fuel + 1) listed a w := by
 refine wpAnyH_all hr (by simp) (fun i hi' => ?_)
 obtain rfl | rfl | rfl : i = j ∨ i = k ∨ i = l := by simpa using hi'
 ·unfold wpOp
  simp only [hj, wj, if_true]
  exact .inl (h1 _ (fun a' w' hS hn => ⟨hS, hn⟩))
 ·unfold wpOp
  simp only [hk, wk, if_true]
  exact .inl (h2 _ (fun a' w' hS hn => ⟨hS, hn⟩))
 ·unfold wpOp
  simp only [hl, wl, if_true]
  exact .inl (h3 _ (fun a' w' hS hn => ⟨hS, hn⟩))
end
end Go.Proofs.YtjoohgkgkabbpaaGreatDoor

