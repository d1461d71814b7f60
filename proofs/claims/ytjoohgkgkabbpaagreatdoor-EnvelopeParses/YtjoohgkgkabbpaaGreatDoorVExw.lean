import Derived.Test.YtjoohgkgkabbpaaGreatDoorVJrt
import Derived.OwnWalk
import Derived.Deep.Cut
import Derived.Deep.RegionHeld3
namespace Go.Proofs.YtjoohgkgkabbpaaGreatDoor
set_option maxRecDepth 100000
open Go Go.RowKit Go.Sort
attribute [local go_sem] setCell_drewN alloc_drewN
theorem builtF1 (n : Int) : Tryz.prog.built 35 [(2, .int .i64 n)] = some #[.int .i64 0, .int .i64 0, .int .i64 n] := by kernel_rfl
theorem builtF2 (a n : Int) : Tryz.prog.built 35 [(1, .int .i64 a), (2, .int .i64 n)] = some #[.int .i64 0, .int .i64 a, .int .i64 n] := by kernel_rfl
theorem own_othR {W : World} {b g : Nat} {v : Value} {l : List B} (h : Own W b v l) (hg : ∀ k, v.ownBlock = some k → k ≠ g) (cs : Array Value) : Own (W.setRow g cs) b v l := by
 obtain ⟨h1, ⟨h2, h3⟩ | ⟨g', cap, cur, rfl, hb, h4, h5⟩⟩ := h
 ·exact ⟨h1, .inl ⟨h2, h3⟩⟩
 ·refine ⟨h1, .inr ⟨g', cap, cur, rfl, hb, ?_, h5⟩⟩
  rw [setRow_other W g g' cs (hg g' rfl)]
  exact h4
def RrE (base : Nat) (d : List B) (e : Ending) (w' : World) : Prop := match paF d with
 | none => ∃ ha hc ba bc, e = .returned (.tuple #[.agg (evl (riV d : Int) (gf (dfs (dwh d)) 1).dat (.slice ha (gf (dfs (dwh d)) 2).dat.length hc) (.slice ba (gf (dfs (dwh d)) 3).dat.length bc)), .agg #[.int .i64 0, .int .i64 0, .int .i64 0]]) ∧ Own w' base (.slice ha (gf (dfs (dwh d)) 2).dat.length hc) (gf (dfs (dwh d)) 2).dat ∧ Own w' base (.slice ba (gf (dfs (dwh d)) 3).dat.length bc) (gf (dfs (dwh d)) 3).dat
 | some x => e = .returned (.tuple #[.agg (evl 0 n16 (.slice none 0 0) (.slice none 0 0)), .agg (frw x)])
theorem paF_ri {d : List B} {a e : Int} (h1 : riE d = e) (h0 : e ≠ 0) (h2 : riA d = a) : paF d = some ⟨0, a, e⟩ := by
 unfold paF
 rw [if_pos (by rw [h1]; exact h0), h1, h2]
set_option maxRecDepth 100000 in
set_option maxHeartbeats 16000000 in
theorem r_ParseE (d : List B) (b : Value) (w : World) (hB : BysB w b d) (hcap : ∀ a l c, b = .slice a l c → l ≤ c) : Calls Tryz.prog 23 #[b] w fun e w' => RrE w.heap.size d e w' ∧ Below w.heap.size w w' := by
 have R0 := hp2_0 w (.cells (evl 0 n16 (.slice none 0 0) (.slice none 0 0)) 51) (.cells #[.int .i64 0, .int .i64 0, .int .i64 0] 35)
 have R3 := hp2_1 w (.cells (evl 0 n16 (.slice none 0 0) (.slice none 0 0)) 51) (.cells #[.int .i64 0, .int .i64 0, .int .i64 0] 35)
 have hw : Below w.heap.size w ((w.alloc (.cells (evl 0 n16 (.slice none 0 0) (.slice none 0 0)) 51)).alloc (.cells #[.int .i64 0, .int .i64 0, .int .i64 0] 35)) := ((Below.refl _ _).alloc (Nat.le_refl _) _).alloc (by simp) _
 replace hB := hB.keep hw
 go_enter Tryz.func23, Tryz.ntmps23
 go_upto_region 1 with (first | (refine wpList_alloc rfl 51 rfl (evl 0 n16 (.slice none 0 0) (.slice none 0 0)) zEnv ?_) | fail)
 try simp only [size_alloc1, Act.put, List.setIfInBounds_toArray, List.set_cons_succ, List.set_cons_zero]
 generalize (w.alloc (.cells (evl 0 n16 (.slice none 0 0) (.slice none 0 0)) 51)).alloc (.cells #[.int .i64 0, .int .i64 0, .int .i64 0] 35) = w1 at *
 go_wp2_with (fail)
 refine (r_decode d w1 b hB hcap).mono ?_
 rintro e_ w2 ⟨u, us, rfl, hF, hb_⟩
 have l0_ := lt_of_row R3
 have sz12 := hb_.size
 replace R0 := keep hb_ R0
 replace R3 := keep hb_ R3
 replace hB := hB.keep hb_
 replace hw := Below.after hw hb_
 clear hb_
 have l2_ : w.heap.size + 1 < w2.heap.size := by omega
 obtain ⟨E, hE⟩ : ∃ E, der (dwh d) = E := ⟨_, rfl⟩
 obtain ⟨P, hP⟩ : ∃ P, dpl (dwh d) = P := ⟨_, rfl⟩
 obtain ⟨ao, cap, rfl⟩ := own_form_row hF.1
 rw [hE, hP]
 by_cases h0 : E = 0
 ·have hr2 : Hid (riA d = 0) := hide (by unfold riA; rw [hE, if_neg (by simpa using h0)])
  subst h0
  by_cases h1 : (dfs (dwh d)).length = 0
  ·have hr3 : Hid (riE d = 81) := hide (by unfold riE; rw [hE, if_neg (by simp), if_pos (.inl h1)])
   rw [h1]
   clear h1 hF hE hP hB
   have oneF : (#[Value.int .i64 0, .int .i64 0, .int .i64 81] : Array Value).all (·.oneCell') = true := by simp [Value.oneCell']
   have R3b := (setRow_other w2 (w.heap.size) (w.heap.size + 1) (evl 0 n16 (.slice none 0 0) (.slice none 0 0)) (by omega)).trans R3
   go_wp2_with (first | (refine wpList_build_want rfl 51 _ rfl [] rfl (evl 0 n16 (.slice none 0 0) (.slice none 0 0)) builtE0 ?_) | (refine wpList_build_want rfl 35 _ rfl [(2, .int .i64 81)] rfl #[.int .i64 0, .int .i64 0, .int .i64 81] (builtF1 81) ?_) | (refine wpList_store_row rfl 51 _ _ rfl (w.heap.size) (evl 0 n16 (.slice none 0 0) (.slice none 0 0)) rfl rfl 51 _ R0 (evl_info _ _ n16_len _ _) rfl (evl_one _ _ _ _ _ _ _ _) ?_) | (refine wpList_store_row rfl 35 _ _ rfl (w.heap.size + 1) #[.int .i64 0, .int .i64 0, .int .i64 81] rfl rfl 35 _ R3b infoFt rfl oneF ?_) | fail)
   clear R3b
   replace R3 := (setRow_other w2 (w.heap.size) (w.heap.size + 1) (evl 0 n16 (.slice none 0 0) (.slice none 0 0)) (by omega)).trans R3
   replace R0 := setRow_heap w2 (w.heap.size) _ ((evl 0 n16 (.slice none 0 0) (.slice none 0 0))) _ _ R0
   replace hw := below_setRow hw (show w.heap.size ≤ w.heap.size by omega) (evl 0 n16 (.slice none 0 0) (.slice none 0 0))
   generalize w2.setRow (w.heap.size) (evl 0 n16 (.slice none 0 0) (.slice none 0 0)) = x3 at *
   replace R0 := (setRow_other x3 (w.heap.size + 1) (w.heap.size) #[.int .i64 0, .int .i64 0, .int .i64 81] (by omega)).trans R0
   replace R3 := setRow_heap x3 (w.heap.size + 1) _ (#[.int .i64 0, .int .i64 0, .int .i64 81]) _ _ R3
   replace hw := below_setRow hw (show w.heap.size ≤ w.heap.size + 1 by omega) #[.int .i64 0, .int .i64 0, .int .i64 81]
   exact bodyPost_ret (v := .tuple #[.agg (evl 0 n16 (.slice none 0 0) (.slice none 0 0)), .agg #[.int .i64 0, .int .i64 0, .int .i64 81]]) (results_cell_cell Tryz.results23 _ _ (w.heap.size) (w.heap.size + 1) _ _ _ _ _ _ _ _ rfl R0 Tryz.underlying51 rfl (evl_info _ _ n16_len _ _) rfl R3 Tryz.underlying35 rfl infoFt) rfl ⟨by unfold RrE; rw [paF_ri hr3.out (by decide) hr2.out]; rfl, hw⟩
  ·obtain ⟨fb, c2, e2, hg1, hg2, hrg⟩ := hF.at (i := 0) (by omega)
   obtain ⟨n, hN⟩ : ∃ n, (dfs (dwh d)).length = n := ⟨_, rfl⟩
   rw [hN] at e2 h1 ⊢
   injection e2 with e3 e4 e5
   subst e3
   have h1' : 0 < n := by omega
   obtain ⟨no, hno⟩ : ∃ x, (gf (dfs (dwh d)) 0).no = x := ⟨_, rfl⟩
   obtain ⟨ty, hty⟩ : ∃ x, (gf (dfs (dwh d)) 0).ty = x := ⟨_, rfl⟩
   obtain ⟨v, hv⟩ : ∃ x, (gf (dfs (dwh d)) 0).num = x := ⟨_, rfl⟩
   have hV : riV d = v := hv
   have k0 : w2.cell? ⟨fb, 0, none⟩ = some (.int .i64 no) := by rw [← hno]; exact hrg 0 _ rfl
   have k1 : w2.cell? ⟨fb, 1, none⟩ = some (.int .i64 ty) := by rw [← hty]; exact hrg 1 _ rfl
   have k2 : w2.cell? ⟨fb, 2, none⟩ = some (.int .u64 (v : Int)) := by rw [← hv]; exact hrg 2 _ rfl
   clear hrg hF hg1 e4 e5
   replace hN := hide hN
   by_cases h2 : no = 1
   ·subst h2
    by_cases h3 : ty = 0
    ·subst h3
     cases hk : known10 v with
     | false =>
      have hr3 : Hid (riE d = 100) := hide (by unfold riE; rw [hE, if_neg (by simp), if_neg (by rw [hN.out, hno]; simp; omega), if_neg (by rw [hty]; simp), hV, hk]; rfl)
      have v1 : ((v : Int) != 1) = true := by unfold known10 at hk; simp at hk; simp; omega
      have v2 : ((v : Int) != 2) = true := by unfold known10 at hk; simp at hk; simp; omega
      clear hno hty hv hE hP hV hk hB
      have oneF : (#[Value.int .i64 0, .int .i64 0, .int .i64 100] : Array Value).all (·.oneCell') = true := by simp [Value.oneCell']
      have R3b := (setRow_other w2 (w.heap.size) (w.heap.size + 1) (evl 0 n16 (.slice none 0 0) (.slice none 0 0)) (by omega)).trans R3
      go_wp2_with (first | (refine wpList_build_want rfl 51 _ rfl [] rfl (evl 0 n16 (.slice none 0 0) (.slice none 0 0)) builtE0 ?_) | (refine wpList_build_want rfl 35 _ rfl [(2, .int .i64 100)] rfl #[.int .i64 0, .int .i64 0, .int .i64 100] (builtF1 100) ?_) | (refine wpList_store_row rfl 51 _ _ rfl (w.heap.size) (evl 0 n16 (.slice none 0 0) (.slice none 0 0)) rfl rfl 51 _ R0 (evl_info _ _ n16_len _ _) rfl (evl_one _ _ _ _ _ _ _ _) ?_) | (refine wpList_store_row rfl 35 _ _ rfl (w.heap.size + 1) #[.int .i64 0, .int .i64 0, .int .i64 100] rfl rfl 35 _ R3b infoFt rfl oneF ?_) | fail)
      clear R3b
      replace R3 := (setRow_other w2 (w.heap.size) (w.heap.size + 1) (evl 0 n16 (.slice none 0 0) (.slice none 0 0)) (by omega)).trans R3
      replace R0 := setRow_heap w2 (w.heap.size) _ ((evl 0 n16 (.slice none 0 0) (.slice none 0 0))) _ _ R0
      replace hw := below_setRow hw (show w.heap.size ≤ w.heap.size by omega) (evl 0 n16 (.slice none 0 0) (.slice none 0 0))
      generalize w2.setRow (w.heap.size) (evl 0 n16 (.slice none 0 0) (.slice none 0 0)) = x3 at *
      replace R0 := (setRow_other x3 (w.heap.size + 1) (w.heap.size) #[.int .i64 0, .int .i64 0, .int .i64 100] (by omega)).trans R0
      replace R3 := setRow_heap x3 (w.heap.size + 1) _ (#[.int .i64 0, .int .i64 0, .int .i64 100]) _ _ R3
      replace hw := below_setRow hw (show w.heap.size ≤ w.heap.size + 1 by omega) #[.int .i64 0, .int .i64 0, .int .i64 100]
      exact bodyPost_ret (v := .tuple #[.agg (evl 0 n16 (.slice none 0 0) (.slice none 0 0)), .agg #[.int .i64 0, .int .i64 0, .int .i64 100]]) (results_cell_cell Tryz.results23 _ _ (w.heap.size) (w.heap.size + 1) _ _ _ _ _ _ _ _ rfl R0 Tryz.underlying51 rfl (evl_info _ _ n16_len _ _) rfl R3 Tryz.underlying35 rfl infoFt) rfl ⟨by unfold RrE; rw [paF_ri hr3.out (by decide) hr2.out]; rfl, hw⟩
     | true =>
      have hr3 : Hid (riE d = 0) := hide (by unfold riE; rw [hE, if_neg (by simp), if_neg (by rw [hN.out, hno]; simp; omega), if_neg (by rw [hty]; simp), hV, hk]; rfl)
      have hk2 : v = 1 ∨ v = 2 := by unfold known10 at hk; simpa using hk
      clear hno hty hv hE hP hk hr2
      rcases hk2 with rfl | rfl
      ·have hV1 : Hid (riV d = 1) := hide hV
       replace k2 : w2.cell? ⟨fb, 2, none⟩ = some (.int .u64 1) := k2
       clear hV
       go_wp2_with (fail)
       refine (r_shapeE1 w2).mono ?_
       rintro e_ x2 ⟨sv, rfl, ⟨q, rfl, hq1, hC⟩, hb_⟩
       have l0_ := lt_of_row R3
       replace R0 := keep hb_ R0
       replace R3 := keep hb_ R3
       replace hB := hB.keep hb_
       replace k2 := (hb_.cell (p := ⟨fb, 2, none⟩) (show fb < _ by omega)).trans k2
       replace hw := Below.after hw hb_
       have szc := hb_.size
       clear hb_
       have cDe := hide (r_DecodeF esl1_flat d b x2 hC hB hcap)
       clear hC
       go_wp2_with (fail)
       refine cDe.out.mono ?_
       rintro e_ w3 ⟨hD, hb_⟩
       have sz2 := hw.size
       replace R0 := keep hb_ R0
       replace R3 := keep hb_ R3
       replace k2 := (hb_.cell (p := ⟨fb, 2, none⟩) (show fb < _ by omega)).trans k2
       replace hw := Below.after hw hb_
       have sz3 := hb_.size
       clear hb_ cDe hB hcap
       obtain ⟨R, hR⟩ : ∃ R, dec8 (esl 1) d 0 = R := ⟨_, rfl⟩
       unfold DcE at hD
       rw [hR] at hD
       cases R with
       | some x =>
        simp only at hD
        subst hD
        have hpf : Hid (paF d = some x) := hide (by unfold paF; rw [if_neg (by rw [hr3.out]; simp), hV1.out, hR])
        have hwy := dec8_why hR
        have bE : (x.why != 0) = true := by simpa using hwy
        have bE2 : (x.why == 0) = false := by simpa using hwy
        clear hR k2
        unfold frw
        have rZ := hp2_0 w3 (.cells #[.int .u64 0, .slice none 0 0, .slice none 0 0] 78) (.cells #[.int .i64 0, .int .i64 0, .int .i64 0] 35)
        have rF := hp2_1 w3 (.cells #[.int .u64 0, .slice none 0 0, .slice none 0 0] 78) (.cells #[.int .i64 0, .int .i64 0, .int .i64 0] 35)
        have oneA : (#[Value.int .u64 0, .slice none 0 0, .slice none 0 0] : Array Value).all (·.oneCell') = true := by simp [Value.oneCell']
        have oneE : (#[Value.int .i64 x.line, .int .i64 x.at_, .int .i64 x.why] : Array Value).all (·.oneCell') = true := by simp [Value.oneCell']
        have rF2 := (setRow_other ((w3.alloc (.cells #[.int .u64 0, .slice none 0 0, .slice none 0 0] 78)).alloc (.cells #[.int .i64 0, .int .i64 0, .int .i64 0] 35)) w3.heap.size (w3.heap.size + 1) #[.int .u64 0, .slice none 0 0, .slice none 0 0] (by omega)).trans rF
        have rV2 := setRow_heap _ w3.heap.size _ #[.int .u64 0, .slice none 0 0, .slice none 0 0] _ _ rZ
        have rV := (setRow_other (((w3.alloc (.cells #[.int .u64 0, .slice none 0 0, .slice none 0 0] 78)).alloc (.cells #[.int .i64 0, .int .i64 0, .int .i64 0] 35)).setRow w3.heap.size #[.int .u64 0, .slice none 0 0, .slice none 0 0]) (w3.heap.size + 1) w3.heap.size #[.int .i64 x.line, .int .i64 x.at_, .int .i64 x.why] (by omega)).trans rV2
        have rE := setRow_heap _ (w3.heap.size + 1) _ #[.int .i64 x.line, .int .i64 x.at_, .int .i64 x.why] _ _ rF2
        have hb5 : Below w3.heap.size w3 ((((w3.alloc (.cells #[.int .u64 0, .slice none 0 0, .slice none 0 0] 78)).alloc (.cells #[.int .i64 0, .int .i64 0, .int .i64 0] 35)).setRow w3.heap.size #[.int .u64 0, .slice none 0 0, .slice none 0 0]).setRow (w3.heap.size + 1) #[.int .i64 x.line, .int .i64 x.at_, .int .i64 x.why]) := below_setRow (below_setRow (((Below.refl _ _).alloc (Nat.le_refl _) _).alloc (by simp) _) (Nat.le_refl _) #[.int .u64 0, .slice none 0 0, .slice none 0 0]) (by omega) #[.int .i64 x.line, .int .i64 x.at_, .int .i64 x.why]
        have l03 := lt_of_row R0
        have l33 := lt_of_row R3
        replace R0 := keep hb5 R0
        replace R3 := keep hb5 R3
        replace hw := Below.after hw hb5
        have lV3 := lt_of_row rV
        have lE3 := lt_of_row rE
        clear rV2
        have A1 := hide R0
        have A2 := hide hw
        have A3 := hide R3
        have A7 := hide rE
        have A8 := hide lE3
        have cW := cell_of_row _ _ 2 _ _ _ rE
        clear R0 hw R3 rE lV3 lE3 rV hb5
        go_upto_region 11 with (first | (refine wpList_store_row rfl 78 _ _ rfl w3.heap.size #[.int .u64 0, .slice none 0 0, .slice none 0 0] rfl rfl 78 _ rZ infoV rfl oneA ?_) | (refine wpList_store_row rfl 35 _ _ rfl (w3.heap.size + 1) #[.int .i64 x.line, .int .i64 x.at_, .int .i64 x.why] rfl rfl 35 _ rF2 infoFt rfl oneE ?_) | fail)
        simp only [Act.put]
        clear rZ rF rF2
        generalize (((w3.alloc (.cells #[.int .u64 0, .slice none 0 0, .slice none 0 0] 78)).alloc (.cells #[.int .i64 0, .int .i64 0, .int .i64 0] 35)).setRow w3.heap.size #[.int .u64 0, .slice none 0 0, .slice none 0 0]).setRow (w3.heap.size + 1) #[.int .i64 x.line, .int .i64 x.at_, .int .i64 x.why] = w6 at *
        have R0 := A1.out
        have hw := A2.out
        have R3 := A3.out
        have RE := A7.out
        have lE6 := A8.out
        clear A1 A2 A3 A7 A8
        generalize hgE : w3.heap.size + 1 = gE at *
        have hgE2 : w.heap.size + 1 < gE := by omega
        clear hgE
        go_upto_region 12 with (fail)
        clear cW
        have hbd : Below w6.heap.size w6 w6.drew := below_drN (Below.refl _ _) 1
        replace RE := keep hbd RE
        replace R0 := keep hbd R0
        replace R3 := keep hbd R3
        replace hw := Below.after hw hbd
        clear hbd
        refine wp_region_held (S := fun W : World => W.heap[gE]? = some (.cells #[.int .i64 x.line, .int .i64 x.at_, .int .i64 x.why] 35 (0, 0))) (by kernel_rfl) ?_
        change wpAnyH _ _ _ _ _ _ _ _ (World.drew _)
        generalize w6.drew = z1 at *
        refine wpAnyH_take (i := 0) (v := .agg (evl 0 n16 (.slice none 0 0) (.slice none 0 0))) rfl (by kernel_rfl) (by kernel_rfl) (by kernel_rfl) (fun _ _ _ h => h) (Or.inl ⟨by rfl, ?yb88⟩) RE ?rb88
        case yb88 =>
         intro w_ hS_
         simp only [List.getElem_toArray, List.getElem_cons_zero]
         exact run_build_op 51 _ rfl [] rfl _ builtE0
        simp only [Act.put, List.getElem_toArray, List.getElem_cons_zero, List.setIfInBounds_toArray, List.set_cons_succ, List.set_cons_zero]
        refine wpAnyH_take (i := 1) (v := .agg #[.int .i64 x.line, .int .i64 x.at_, .int .i64 x.why]) rfl (by kernel_rfl) (by kernel_rfl) (by kernel_rfl) (fun _ _ _ h => h) (yieldsIf_load_mid (by rfl) 35 _ rfl gE 0 rfl [.int .i64 x.line, .int .i64 x.at_, .int .i64 x.why] _ (fun _ h => range_row ⟨_, h⟩) Tryz.underlying35 rfl infoFt) RE ?_
        simp only [Act.put, List.getElem_toArray, List.getElem_cons_succ, List.getElem_cons_zero, List.setIfInBounds_toArray, List.set_cons_succ, List.set_cons_zero]
        refine wpAnyH_one (k := 2) (fuel := 1) (by kernel_rfl) rfl (by kernel_rfl) (fun K_ hK_ => ?_)
        refine wp_store_row 51 _ _ rfl (w.heap.size) (evl 0 n16 (.slice none 0 0) (.slice none 0 0)) rfl rfl 51 _ R0 (evl_info _ _ n16_len _ _) rfl (evl_one _ _ _ _ _ _ _ _) ?_
        replace RE := (setRow_other z1 (w.heap.size) gE (evl 0 n16 (.slice none 0 0) (.slice none 0 0)) (by omega)).trans RE
        replace R3 := (setRow_other z1 (w.heap.size) (w.heap.size + 1) (evl 0 n16 (.slice none 0 0) (.slice none 0 0)) (by omega)).trans R3
        replace R0 := setRow_heap z1 (w.heap.size) _ ((evl 0 n16 (.slice none 0 0) (.slice none 0 0))) _ _ R0
        replace hw := below_setRow hw (show w.heap.size ≤ w.heap.size by omega) (evl 0 n16 (.slice none 0 0) (.slice none 0 0))
        refine hK_ _ _ RE ?_
        simp only [Act.put, List.getElem_toArray, List.getElem_cons_succ, List.getElem_cons_zero]
        clear hK_
        generalize z1.setRow (w.heap.size) (evl 0 n16 (.slice none 0 0) (.slice none 0 0)) = z2 at *
        refine wpAnyH_one (k := 3) (fuel := 0) (by kernel_rfl) rfl (by kernel_rfl) (fun K_ hK_ => ?_)
        refine wp_store_row 35 _ _ rfl (w.heap.size + 1) #[.int .i64 x.line, .int .i64 x.at_, .int .i64 x.why] rfl rfl 35 _ R3 infoFt rfl oneE ?_
        replace RE := (setRow_other z2 (w.heap.size + 1) gE #[.int .i64 x.line, .int .i64 x.at_, .int .i64 x.why] (by omega)).trans RE
        replace R0 := (setRow_other z2 (w.heap.size + 1) (w.heap.size) #[.int .i64 x.line, .int .i64 x.at_, .int .i64 x.why] (by omega)).trans R0
        replace R3 := setRow_heap z2 (w.heap.size + 1) _ (#[.int .i64 x.line, .int .i64 x.at_, .int .i64 x.why]) _ _ R3
        replace hw := below_setRow hw (show w.heap.size ≤ w.heap.size + 1 by omega) #[.int .i64 x.line, .int .i64 x.at_, .int .i64 x.why]
        refine hK_ _ _ RE ?_
        simp only [Act.put, List.getElem_toArray, List.getElem_cons_succ, List.getElem_cons_zero]
        clear hK_
        refine wpAnyH_done (by kernel_rfl) ?_ _
        go_wp2_with (fail)
        exact bodyPost_ret (v := .tuple #[.agg (evl 0 n16 (.slice none 0 0) (.slice none 0 0)), .agg #[.int .i64 x.line, .int .i64 x.at_, .int .i64 x.why]]) (results_cell_cell Tryz.results23 _ _ (w.heap.size) (w.heap.size + 1) _ _ _ _ _ _ _ _ rfl R0 Tryz.underlying51 rfl (evl_info _ _ n16_len _ _) rfl R3 Tryz.underlying35 rfl infoFt) rfl ⟨by unfold RrE; rw [hpf.out]; rfl, hw⟩
       | none =>
        obtain ⟨pv, fv, us, rfl, hO, hF⟩ := hD
        obtain ⟨hd0, nonce, hd, bd, hfs, hn, h60, h80, hmo⟩ := dec_esl hR
        rw [hfs] at hO hF hN
        have hn4 : n = 4 := hN.out.symm
        subst hn4
        obtain ⟨pb, pc, rfl, hpb1, hpb2, hra⟩ := own_rangeR hO (by simp [efs])
        have hu : us.length = 4 := hF.2.1
        obtain ⟨g1, c1, e1, hc1, hgb1, hgl1, hr1⟩ := own_range (hF.2.2.1 1 (by omega)) (by show 0 < nonce.length; omega)
        have oH : Own w3 x2.heap.size (gv us 2) hd := hF.2.2.1 2 (by omega)
        have oB : Own w3 x2.heap.size (gv us 3) bd := hF.2.2.1 3 (by omega)
        obtain ⟨ha, hc, eH⟩ := slen_own oH
        obtain ⟨ba, bc, eB⟩ := slen_own oB
        obtain ⟨hl, hl60⟩ : ∃ hl, hd.length = hl := ⟨_, rfl⟩
        obtain ⟨bn, hbn⟩ : ∃ bn, bd.length = bn := ⟨_, rfl⟩
        rw [hl60] at eH
        rw [hbn] at eB h80 hmo
        rw [eH] at oH
        rw [eB] at oB
        have hvr : vrk (efs 1 nonce hd bd) us 4 = [.int .u64 1, gv us 0, .slice none 0 0, .int .u64 0, .slice (some ⟨g1, 0, none⟩) 16 c1, .slice none 0 0, .int .u64 0, (.slice ha hl hc), .slice none 0 0, .int .u64 0, (.slice ba bn bc), .slice none 0 0] := by
         have q1 : gv us 1 = .slice (some ⟨g1, 0, none⟩) 16 c1 := by rw [e1]; show Value.slice _ nonce.length _ = _; rw [hn]
         rw [← q1, ← eH, ← eB]
         rfl
        have hra' : w3.rangeAt pb 0 [.int .u64 1, gv us 0, .slice none 0 0, .int .u64 0, .slice (some ⟨g1, 0, none⟩) 16 c1, .slice none 0 0, .int .u64 0, (.slice ha hl hc), .slice none 0 0, .int .u64 0, (.slice ba bn bc), .slice none 0 0] := by rw [← hvr]; exact hra
        replace hra := hra'
        replace hr1 : w3.rangeAt g1 0 ((bl nonce).map (Value.int .u8)) := hr1
        have hpf : Hid (paF d = if bkd (dg 1) (bn - 16) = bn - 16 then none else some ⟨0, 82, 102⟩) := hide (by
         unfold paF
         rw [if_neg (by rw [hr3.out]; simp), hV1.out, hR]
         simp only
         rw [hfs, show (gf (efs 1 nonce hd bd) 3).dat = bd from rfl, hbn])
        have hlow : w.heap.size ≤ x2.heap.size := by omega
        have cHo := hide (r_holds1 bn (by have := (show mo 1 = 2097168 from rfl); omega))
        replace hfs := hide hfs
        replace hl60 := hide hl60
        replace hbn := hide hbn
        replace h80 := hide h80
        replace hmo := hide hmo
        clear hra' hvr e1 hO hF hd0 hu hc1 eH eB hR h60
        generalize gv us 0 = u0 at *
        have rZ := hp2_0 w3 (.cells #[.int .u64 0, .slice none 0 0, .slice none 0 0] 78) (.cells #[.int .i64 0, .int .i64 0, .int .i64 0] 35)
        have rF := hp2_1 w3 (.cells #[.int .u64 0, .slice none 0 0, .slice none 0 0] 78) (.cells #[.int .i64 0, .int .i64 0, .int .i64 0] 35)
        have oneA : (#[Value.int .u64 0, .slice none 0 0, .slice (some ⟨pb, 0, none⟩) 4 pc] : Array Value).all (·.oneCell') = true := by simp [Value.oneCell']
        have oneE : (#[Value.int .i64 0, .int .i64 0, .int .i64 0] : Array Value).all (·.oneCell') = true := by simp [Value.oneCell']
        have rF2 := (setRow_other ((w3.alloc (.cells #[.int .u64 0, .slice none 0 0, .slice none 0 0] 78)).alloc (.cells #[.int .i64 0, .int .i64 0, .int .i64 0] 35)) w3.heap.size (w3.heap.size + 1) #[.int .u64 0, .slice none 0 0, .slice (some ⟨pb, 0, none⟩) 4 pc] (by omega)).trans rF
        have rV2 := setRow_heap _ w3.heap.size _ #[.int .u64 0, .slice none 0 0, .slice (some ⟨pb, 0, none⟩) 4 pc] _ _ rZ
        have rV := (setRow_other (((w3.alloc (.cells #[.int .u64 0, .slice none 0 0, .slice none 0 0] 78)).alloc (.cells #[.int .i64 0, .int .i64 0, .int .i64 0] 35)).setRow w3.heap.size #[.int .u64 0, .slice none 0 0, .slice (some ⟨pb, 0, none⟩) 4 pc]) (w3.heap.size + 1) w3.heap.size #[.int .i64 0, .int .i64 0, .int .i64 0] (by omega)).trans rV2
        have rE := setRow_heap _ (w3.heap.size + 1) _ #[.int .i64 0, .int .i64 0, .int .i64 0] _ _ rF2
        have hb5 : Below w3.heap.size w3 ((((w3.alloc (.cells #[.int .u64 0, .slice none 0 0, .slice none 0 0] 78)).alloc (.cells #[.int .i64 0, .int .i64 0, .int .i64 0] 35)).setRow w3.heap.size #[.int .u64 0, .slice none 0 0, .slice (some ⟨pb, 0, none⟩) 4 pc]).setRow (w3.heap.size + 1) #[.int .i64 0, .int .i64 0, .int .i64 0]) := below_setRow (below_setRow (((Below.refl _ _).alloc (Nat.le_refl _) _).alloc (by simp) _) (Nat.le_refl _) #[.int .u64 0, .slice none 0 0, .slice (some ⟨pb, 0, none⟩) 4 pc]) (by omega) #[.int .i64 0, .int .i64 0, .int .i64 0]
        have l03 := lt_of_row R0
        have l33 := lt_of_row R3
        replace R0 := keep hb5 R0
        replace R3 := keep hb5 R3
        replace hw := Below.after hw hb5
        have lV3 := lt_of_row rV
        have lE3 := lt_of_row rE
        clear rV2
        replace hra := rangeS_keep2 hra hb5 hpb2
        replace hr1 := rangeS_keep2 hr1 hb5 hgl1
        replace k2 := (hb5.cell (p := ⟨fb, 2, none⟩) (show fb < _ by omega)).trans k2
        replace oH := oH.keep hb5
        replace oB := oB.keep hb5
        have A1 := hide R0
        have A2 := hide hw
        have A3 := hide hra
        have A4 := hide hr1
        have A5 := hide R3
        have A6 := hide oH
        have A9 := hide oB
        have A7 := hide rV
        have A8 := hide lV3
        have A10 := hide k2
        have cW := cell_of_row _ _ 2 _ _ _ rE
        clear R0 R3 hw hra hr1 rV lV3 lE3 rE hb5 oH oB k2
        go_upto_region 11 with (first | (refine wpList_store_row rfl 78 _ _ rfl w3.heap.size #[.int .u64 0, .slice none 0 0, .slice (some ⟨pb, 0, none⟩) 4 pc] rfl rfl 78 _ rZ infoV rfl oneA ?_) | (refine wpList_store_row rfl 35 _ _ rfl (w3.heap.size + 1) #[.int .i64 0, .int .i64 0, .int .i64 0] rfl rfl 35 _ rF2 infoFt rfl oneE ?_) | fail)
        simp only [Act.put]
        clear rZ rF rF2
        generalize (((w3.alloc (.cells #[.int .u64 0, .slice none 0 0, .slice none 0 0] 78)).alloc (.cells #[.int .i64 0, .int .i64 0, .int .i64 0] 35)).setRow w3.heap.size #[.int .u64 0, .slice none 0 0, .slice (some ⟨pb, 0, none⟩) 4 pc]).setRow (w3.heap.size + 1) #[.int .i64 0, .int .i64 0, .int .i64 0] = w6 at *
        go_upto_region 13 with (fail)
        have R0 := A1.out
        have hw := A2.out
        have hra := A3.out
        have hr1 := A4.out
        have R3 := A5.out
        have oH := A6.out
        have oB := A9.out
        have rV := A7.out
        have lV6 := A8.out
        have k2 := A10.out
        clear A1 A2 A3 A4 A5 A6 A9 A7 A8 A10 cW
        have hfV : fb < w3.heap.size := by omega
        have hxV : x2.heap.size ≤ w3.heap.size := by omega
        generalize w3.heap.size = gV at *
        have HS : (fun W : World => W.heap[gV]? = some (.cells #[.int .u64 0, .slice none 0 0, .slice (some ⟨pb, 0, none⟩) 4 pc] 78 (0, 0)) ∧ W.rangeAt pb 0 [.int .u64 1, u0, .slice none 0 0, .int .u64 0, .slice (some ⟨g1, 0, none⟩) 16 c1, .slice none 0 0, .int .u64 0, (.slice ha hl hc), .slice none 0 0, .int .u64 0, (.slice ba bn bc), .slice none 0 0] ∧ W.rangeAt g1 0 ((bl nonce).map (Value.int .u8)) ∧ W.cell? ⟨fb, 2, none⟩ = some (.int .u64 1)) w6.drew := ⟨rV, hra, hr1, k2⟩
        have hbd : Below w6.heap.size w6 w6.drew := below_drN (Below.refl _ _) 1
        replace R0 := keep hbd R0
        replace R3 := keep hbd R3
        replace oH := oH.keep hbd
        replace oB := oB.keep hbd
        replace hw := Below.after hw hbd
        have szd := hbd.size
        clear hbd rV hra hr1 k2
        refine wp_region_held (S := fun W : World => W.heap[gV]? = some (.cells #[.int .u64 0, .slice none 0 0, .slice (some ⟨pb, 0, none⟩) 4 pc] 78 (0, 0)) ∧ W.rangeAt pb 0 [.int .u64 1, u0, .slice none 0 0, .int .u64 0, .slice (some ⟨g1, 0, none⟩) 16 c1, .slice none 0 0, .int .u64 0, (.slice ha hl hc), .slice none 0 0, .int .u64 0, (.slice ba bn bc), .slice none 0 0] ∧ W.rangeAt g1 0 ((bl nonce).map (Value.int .u8)) ∧ W.cell? ⟨fb, 2, none⟩ = some (.int .u64 1)) (by kernel_rfl) ?_
        change wpAnyH _ _ _ _ _ _ _ _ (World.drew _)
        generalize w6.drew = w7 at *
        refine wpAnyH_take (i := 0) (v := ?vb90) rfl (by kernel_rfl) (by kernel_rfl) (by kernel_rfl) (fun _ _ _ h => h) (Or.inl ⟨by rfl, ?yb90⟩) HS ?rb90
        case yb90 =>
         intro w_ hS_
         go_simp
         try with_reducible rfl
        simp only [Act.put, List.getElem_toArray, List.getElem_cons_zero, List.setIfInBounds_toArray, List.set_cons_succ, List.set_cons_zero]
        refine wpAnyH_take (i := 1) (v := .pointer (some ⟨fb, 0, none⟩)) rfl (by kernel_rfl) (by kernel_rfl) (by kernel_rfl) (fun _ _ _ h => h) (Or.inl ⟨by rfl, ?yb91⟩) HS ?rb91
        case yb91 =>
         intro w_ hS_
         go_simp
         try with_reducible rfl
        simp only [Act.put, List.getElem_toArray, List.getElem_cons_succ, List.getElem_cons_zero, List.setIfInBounds_toArray, List.set_cons_succ, List.set_cons_zero]
        refine wpAnyH_take (i := 2) (v := ?vb92) rfl (by kernel_rfl) (by kernel_rfl) (by kernel_rfl) (fun _ _ _ h => h) (Or.inl ⟨by rfl, ?yb92⟩) HS ?rb92
        case yb92 =>
         intro w_ hS_
         go_simp
         try with_reducible rfl
        simp only [Act.put, List.getElem_toArray, List.getElem_cons_succ, List.getElem_cons_zero, List.setIfInBounds_toArray, List.set_cons_succ, List.set_cons_zero]
        refine wpAnyH_take (i := 3) (v := .int .u64 1) rfl (by kernel_rfl) (by kernel_rfl) (by kernel_rfl) (fun _ _ _ h => h) (Or.inl ⟨by rfl, ?yb93⟩) HS ?rb93
        case yb93 =>
         intro w_ hS_
         have c_ := hS_.2.2.2
         go_simp
         try with_reducible rfl
        simp only [Act.put, List.getElem_toArray, List.getElem_cons_succ, List.getElem_cons_zero, List.setIfInBounds_toArray, List.set_cons_succ, List.set_cons_zero]
        refine wpAnyH_take (i := 4) (v := .int .i64 1) rfl (by kernel_rfl) (by kernel_rfl) (by kernel_rfl) (fun _ _ _ h => h) (Or.inl ⟨by rfl, ?yb94⟩) HS ?rb94
        case yb94 =>
         intro w_ hS_
         go_simp
         rfl
        simp only [Act.put, List.getElem_toArray, List.getElem_cons_succ, List.getElem_cons_zero, List.setIfInBounds_toArray, List.set_cons_succ, List.set_cons_zero]
        refine wpAnyH_take (i := 5) (v := ?vb95) rfl (by kernel_rfl) (by kernel_rfl) (by kernel_rfl) (fun _ _ _ h => h) (Or.inl ⟨by rfl, ?yb95⟩) HS ?rb95
        case yb95 =>
         intro w_ hS_
         go_simp
         try with_reducible rfl
        simp only [Act.put, List.getElem_toArray, List.getElem_cons_succ, List.getElem_cons_zero, List.setIfInBounds_toArray, List.set_cons_succ, List.set_cons_zero]
        refine wpAnyH_take (i := 6) (v := .slice (some ⟨pb, 0, none⟩) 4 pc) rfl (by kernel_rfl) (by kernel_rfl) (by kernel_rfl) (fun _ _ _ h => h) (Or.inl ⟨by rfl, ?yb96⟩) HS ?rb96
        case yb96 =>
         intro w_ hS_
         have c_ := cell_of_row _ _ 2 _ _ _ hS_.1
         go_simp
         try with_reducible rfl
        simp only [Act.put, List.getElem_toArray, List.getElem_cons_succ, List.getElem_cons_zero, List.setIfInBounds_toArray, List.set_cons_succ, List.set_cons_zero]
        refine wpAnyH_take (i := 7) (v := ?vb97) rfl (by kernel_rfl) (by kernel_rfl) (by kernel_rfl) (fun _ _ _ h => h) (Or.inl ⟨by rfl, ?yb97⟩) HS ?rb97
        case yb97 =>
         intro w_ hS_
         go_simp
         try with_reducible rfl
        simp only [Act.put, List.getElem_toArray, List.getElem_cons_succ, List.getElem_cons_zero, List.setIfInBounds_toArray, List.set_cons_succ, List.set_cons_zero]
        refine wpAnyH_take (i := 8) (v := ?vb98) rfl (by kernel_rfl) (by kernel_rfl) (by kernel_rfl) (fun _ _ _ h => h) (Or.inl ⟨by rfl, ?yb98⟩) HS ?rb98
        case yb98 =>
         intro w_ hS_
         go_simp
         try with_reducible rfl
        simp only [Act.put, List.getElem_toArray, List.getElem_cons_succ, List.getElem_cons_zero, List.setIfInBounds_toArray, List.set_cons_succ, List.set_cons_zero]
        refine wpAnyH_take (i := 9) (v := .slice ha hl hc) rfl (by kernel_rfl) (by kernel_rfl) (by kernel_rfl) (fun _ _ _ h => h) (Or.inl ⟨by rfl, ?yb99⟩) HS ?rb99
        case yb99 =>
         intro w_ hS_
         have c_ : w_.cell? ⟨pb, 7, none⟩ = some (.slice ha hl hc) := hS_.2.1 7 _ rfl
         go_simp
         try with_reducible rfl
        simp only [Act.put, List.getElem_toArray, List.getElem_cons_succ, List.getElem_cons_zero, List.setIfInBounds_toArray, List.set_cons_succ, List.set_cons_zero]
        refine wpAnyH_take (i := 10) (v := ?vb100) rfl (by kernel_rfl) (by kernel_rfl) (by kernel_rfl) (fun _ _ _ h => h) (Or.inl ⟨by rfl, ?yb100⟩) HS ?rb100
        case yb100 =>
         intro w_ hS_
         go_simp
         try with_reducible rfl
        simp only [Act.put, List.getElem_toArray, List.getElem_cons_succ, List.getElem_cons_zero, List.setIfInBounds_toArray, List.set_cons_succ, List.set_cons_zero]
        refine wpAnyH_take (i := 11) (v := .slice (some ⟨pb, 0, none⟩) 4 pc) rfl (by kernel_rfl) (by kernel_rfl) (by kernel_rfl) (fun _ _ _ h => h) (Or.inl ⟨by rfl, ?yb101⟩) HS ?rb101
        case yb101 =>
         intro w_ hS_
         have c_ := cell_of_row _ _ 2 _ _ _ hS_.1
         go_simp
         try with_reducible rfl
        simp only [Act.put, List.getElem_toArray, List.getElem_cons_succ, List.getElem_cons_zero, List.setIfInBounds_toArray, List.set_cons_succ, List.set_cons_zero]
        refine wpAnyH_take (i := 12) (v := ?vb102) rfl (by kernel_rfl) (by kernel_rfl) (by kernel_rfl) (fun _ _ _ h => h) (Or.inl ⟨by rfl, ?yb102⟩) HS ?rb102
        case yb102 =>
         intro w_ hS_
         go_simp
         try with_reducible rfl
        simp only [Act.put, List.getElem_toArray, List.getElem_cons_succ, List.getElem_cons_zero, List.setIfInBounds_toArray, List.set_cons_succ, List.set_cons_zero]
        refine wpAnyH_take (i := 13) (v := ?vb103) rfl (by kernel_rfl) (by kernel_rfl) (by kernel_rfl) (fun _ _ _ h => h) (Or.inl ⟨by rfl, ?yb103⟩) HS ?rb103
        case yb103 =>
         intro w_ hS_
         go_simp
         try with_reducible rfl
        simp only [Act.put, List.getElem_toArray, List.getElem_cons_succ, List.getElem_cons_zero, List.setIfInBounds_toArray, List.set_cons_succ, List.set_cons_zero]
        refine wpAnyH_take (i := 14) (v := .slice ba bn bc) rfl (by kernel_rfl) (by kernel_rfl) (by kernel_rfl) (fun _ _ _ h => h) (Or.inl ⟨by rfl, ?yb104⟩) HS ?rb104
        case yb104 =>
         intro w_ hS_
         have c_ : w_.cell? ⟨pb, 10, none⟩ = some (.slice ba bn bc) := hS_.2.1 10 _ rfl
         go_simp
         try with_reducible rfl
        simp only [Act.put, List.getElem_toArray, List.getElem_cons_succ, List.getElem_cons_zero, List.setIfInBounds_toArray, List.set_cons_succ, List.set_cons_zero]
        refine wpAnyH_take (i := 15) (v := .agg (evl 1 n16 (.slice ha hl hc) (.slice ba bn bc))) rfl (by kernel_rfl) (by kernel_rfl) (by kernel_rfl) (fun _ _ _ h => h) (Or.inl ⟨by rfl, ?yb105⟩) HS ?rb105
        case yb105 =>
         intro w_ hS_
         simp only [List.getElem_toArray, List.getElem_cons_succ, List.getElem_cons_zero]
         exact run_build_op 51 _ rfl [(0, .int .i64 1), (2, (.slice ha hl hc)), (3, (.slice ba bn bc))] rfl _ (builtE3 1 ha hl hc ba bn bc)
        simp only [Act.put, List.getElem_toArray, List.getElem_cons_succ, List.getElem_cons_zero, List.setIfInBounds_toArray, List.set_cons_succ, List.set_cons_zero]
        refine wpAnyH_one (k := 16) (fuel := 1) (by kernel_rfl) rfl (by kernel_rfl) (fun K_ hK => ?_)
        refine wp_val_op (.pointer (some ⟨w7.heap.size, 0, none⟩)) (w' := w7.alloc (.cells (evl 0 n16 (.slice none 0 0) (.slice none 0 0)) 51)) (by kernel_rfl) ?_
        have RB := hp1_0 w7 (.cells (evl 0 n16 (.slice none 0 0) (.slice none 0 0)) 51)
        have l0_ := lt_of_row R0
        have l3_ := lt_of_row R3
        have lVV := lt_of_row HS.1
        have hb_ : Below w7.heap.size w7 (w7.alloc (.cells (evl 0 n16 (.slice none 0 0) (.slice none 0 0)) 51)) := (Below.refl _ _).alloc (Nat.le_refl _) _
        have oHh := own_high oH
        have oBh := own_high oB
        have HS' : (fun W : World => W.heap[gV]? = some (.cells #[.int .u64 0, .slice none 0 0, .slice (some ⟨pb, 0, none⟩) 4 pc] 78 (0, 0)) ∧ W.rangeAt pb 0 [.int .u64 1, u0, .slice none 0 0, .int .u64 0, .slice (some ⟨g1, 0, none⟩) 16 c1, .slice none 0 0, .int .u64 0, (.slice ha hl hc), .slice none 0 0, .int .u64 0, (.slice ba bn bc), .slice none 0 0] ∧ W.rangeAt g1 0 ((bl nonce).map (Value.int .u8)) ∧ W.cell? ⟨fb, 2, none⟩ = some (.int .u64 1)) _ := ⟨keep hb_ HS.1, rangeS_keep2 HS.2.1 hb_ (by omega), rangeS_keep2 HS.2.2.1 hb_ (by omega), (hb_.cell (p := ⟨fb, 2, none⟩) (show fb < _ by omega)).trans HS.2.2.2⟩
        replace HS := HS'
        clear HS'
        replace R0 := keep hb_ R0
        replace R3 := keep hb_ R3
        replace oH := oH.keep hb_
        replace oB := oB.keep hb_
        replace hw := Below.after hw hb_
        clear hb_
        refine hK _ _ HS ?_
        simp only [Act.put, List.getElem_toArray, List.getElem_cons_succ, List.getElem_cons_zero, List.setIfInBounds_toArray, List.set_cons_succ, List.set_cons_zero]
        clear hK
        generalize w7.alloc (.cells (evl 0 n16 (.slice none 0 0) (.slice none 0 0)) 51) = w8 at *
        have oHg : ∀ k, (Value.slice ha hl hc).ownBlock = some k → k ≠ w7.heap.size := fun k h => by have := oHh k h; omega
        have oBg : ∀ k, (Value.slice ba bn bc).ownBlock = some k → k ≠ w7.heap.size := fun k h => by have := oBh k h; omega
        clear oHh oBh
        have lfb : fb < w7.heap.size := by omega
        have lpb : pb < w7.heap.size := by omega
        have lg1 : g1 < w7.heap.size := by omega
        generalize w7.heap.size = gB at *
        refine wpAnyH_one (k := 17) (fuel := 0) (by kernel_rfl) rfl (by kernel_rfl) (fun K_ hK => ?_)
        refine wp_store_row 51 _ _ rfl gB (evl 1 n16 (.slice ha hl hc) (.slice ba bn bc)) rfl rfl 51 _ RB (evl_info _ _ n16_len _ _) (by rw [evl_size _ _ n16_len, evl_size _ _ n16_len]) (evl_one _ _ _ _ _ _ _ _) ?_
        have HS' : (fun W : World => W.heap[gV]? = some (.cells #[.int .u64 0, .slice none 0 0, .slice (some ⟨pb, 0, none⟩) 4 pc] 78 (0, 0)) ∧ W.rangeAt pb 0 [.int .u64 1, u0, .slice none 0 0, .int .u64 0, .slice (some ⟨g1, 0, none⟩) 16 c1, .slice none 0 0, .int .u64 0, (.slice ha hl hc), .slice none 0 0, .int .u64 0, (.slice ba bn bc), .slice none 0 0] ∧ W.rangeAt g1 0 ((bl nonce).map (Value.int .u8)) ∧ W.cell? ⟨fb, 2, none⟩ = some (.int .u64 1)) (w8.setRow gB (evl 1 n16 (.slice ha hl hc) (.slice ba bn bc))) := ⟨(setRow_other w8 gB gV (evl 1 n16 (.slice ha hl hc) (.slice ba bn bc)) (by omega)).trans HS.1, mv_range HS.2.1 (setRow_other w8 gB pb (evl 1 n16 (.slice ha hl hc) (.slice ba bn bc)) (by omega)), mv_range HS.2.2.1 (setRow_other w8 gB g1 (evl 1 n16 (.slice ha hl hc) (.slice ba bn bc)) (by omega)), (World.cell?_of_block (w := w8) (a := ⟨fb, 2, none⟩) (setRow_other w8 gB fb (evl 1 n16 (.slice ha hl hc) (.slice ba bn bc)) (by omega))).trans HS.2.2.2⟩
        replace R0 := (setRow_other w8 gB (w.heap.size) (evl 1 n16 (.slice ha hl hc) (.slice ba bn bc)) (by omega)).trans R0
        replace R3 := (setRow_other w8 gB (w.heap.size + 1) (evl 1 n16 (.slice ha hl hc) (.slice ba bn bc)) (by omega)).trans R3
        replace oH := own_othR oH oHg (evl 1 n16 (.slice ha hl hc) (.slice ba bn bc))
        replace oB := own_othR oB oBg (evl 1 n16 (.slice ha hl hc) (.slice ba bn bc))
        replace RB := setRow_heap w8 gB _ (evl 1 n16 (.slice ha hl hc) (.slice ba bn bc)) _ _ RB
        replace hw := below_setRow hw (show w.heap.size ≤ gB by omega) (evl 1 n16 (.slice ha hl hc) (.slice ba bn bc))
        refine hK _ _ HS' ?_
        simp only [Act.put]
        clear hK HS
        generalize w8.setRow gB (evl 1 n16 (.slice ha hl hc) (.slice ba bn bc)) = w9 at *
        refine wpAnyH_done (by kernel_rfl) ?_ _
        go_upto_region 14 with (fail)
        have hbd : Below w9.heap.size w9 w9.drew := below_drN (Below.refl _ _) 1
        have HS : (fun W : World => W.heap[gV]? = some (.cells #[.int .u64 0, .slice none 0 0, .slice (some ⟨pb, 0, none⟩) 4 pc] 78 (0, 0)) ∧ W.rangeAt pb 0 [.int .u64 1, u0, .slice none 0 0, .int .u64 0, .slice (some ⟨g1, 0, none⟩) 16 c1, .slice none 0 0, .int .u64 0, (.slice ha hl hc), .slice none 0 0, .int .u64 0, (.slice ba bn bc), .slice none 0 0] ∧ W.rangeAt g1 0 ((bl nonce).map (Value.int .u8)) ∧ W.cell? ⟨fb, 2, none⟩ = some (.int .u64 1)) w9.drew := HS'
        replace R0 := keep hbd R0
        replace R3 := keep hbd R3
        replace RB := keep hbd RB
        replace oH := oH.keep hbd
        replace oB := oB.keep hbd
        replace hw := Below.after hw hbd
        have sk := slice_n16 gB 1
        clear hbd HS'
        refine wp_region_held (S := fun W : World => W.heap[gV]? = some (.cells #[.int .u64 0, .slice none 0 0, .slice (some ⟨pb, 0, none⟩) 4 pc] 78 (0, 0)) ∧ W.rangeAt pb 0 [.int .u64 1, u0, .slice none 0 0, .int .u64 0, .slice (some ⟨g1, 0, none⟩) 16 c1, .slice none 0 0, .int .u64 0, (.slice ha hl hc), .slice none 0 0, .int .u64 0, (.slice ba bn bc), .slice none 0 0] ∧ W.rangeAt g1 0 ((bl nonce).map (Value.int .u8)) ∧ W.cell? ⟨fb, 2, none⟩ = some (.int .u64 1)) (by kernel_rfl) ?_
        change wpAnyH _ _ _ _ _ _ _ _ (World.drew _)
        generalize w9.drew = w10 at *
        refine wpAnyH_take (i := 0) (v := ?vb106) rfl (by kernel_rfl) (by kernel_rfl) (by kernel_rfl) (fun _ _ _ h => h) (Or.inl ⟨by rfl, ?yb106⟩) HS ?rb106
        case yb106 =>
         intro w_ hS_
         go_simp
         try with_reducible rfl
        simp only [Act.put, List.getElem_toArray, List.getElem_cons_zero, List.setIfInBounds_toArray]
        refine wpAnyH_take (i := 1) (v := .slice (some ⟨gB, 1, none⟩) 16 16) rfl (by kernel_rfl) (by kernel_rfl) (by kernel_rfl) (fun _ _ _ h => h) (Or.inl ⟨by rfl, ?yb107⟩) HS ?rb107
        case yb107 =>
         intro w_ hS_
         go_simp
         try with_reducible rfl
        simp only [Act.put, List.getElem_toArray, List.getElem_cons_succ, List.getElem_cons_zero, List.setIfInBounds_toArray, List.set_cons_succ, List.set_cons_zero]
        refine wpAnyH_take (i := 2) (v := ?vb108) rfl (by kernel_rfl) (by kernel_rfl) (by kernel_rfl) (fun _ _ _ h => h) (Or.inl ⟨by rfl, ?yb108⟩) HS ?rb108
        case yb108 =>
         intro w_ hS_
         go_simp
         try with_reducible rfl
        simp only [Act.put, List.getElem_toArray, List.getElem_cons_succ, List.getElem_cons_zero, List.setIfInBounds_toArray, List.set_cons_succ, List.set_cons_zero]
        refine wpAnyH_take (i := 3) (v := .slice (some ⟨pb, 0, none⟩) 4 pc) rfl (by kernel_rfl) (by kernel_rfl) (by kernel_rfl) (fun _ _ _ h => h) (Or.inl ⟨by rfl, ?yb109⟩) HS ?rb109
        case yb109 =>
         intro w_ hS_
         have c_ := cell_of_row _ _ 2 _ _ _ hS_.1
         go_simp
         try with_reducible rfl
        simp only [Act.put, List.getElem_toArray, List.getElem_cons_succ, List.getElem_cons_zero, List.setIfInBounds_toArray, List.set_cons_succ, List.set_cons_zero]
        refine wpAnyH_take (i := 4) (v := ?vb110) rfl (by kernel_rfl) (by kernel_rfl) (by kernel_rfl) (fun _ _ _ h => h) (Or.inl ⟨by rfl, ?yb110⟩) HS ?rb110
        case yb110 =>
         intro w_ hS_
         go_simp
         try with_reducible rfl
        simp only [Act.put, List.getElem_toArray, List.getElem_cons_succ, List.getElem_cons_zero, List.setIfInBounds_toArray, List.set_cons_succ, List.set_cons_zero]
        refine wpAnyH_take (i := 5) (v := ?vb111) rfl (by kernel_rfl) (by kernel_rfl) (by kernel_rfl) (fun _ _ _ h => h) (Or.inl ⟨by rfl, ?yb111⟩) HS ?rb111
        case yb111 =>
         intro w_ hS_
         go_simp
         try with_reducible rfl
        simp only [Act.put, List.getElem_toArray, List.getElem_cons_succ, List.getElem_cons_zero, List.setIfInBounds_toArray, List.set_cons_succ, List.set_cons_zero]
        refine wpAnyH_take (i := 6) (v := .slice (some ⟨g1, 0, none⟩) 16 c1) rfl (by kernel_rfl) (by kernel_rfl) (by kernel_rfl) (fun _ _ _ h => h) (Or.inl ⟨by rfl, ?yb112⟩) HS ?rb112
        case yb112 =>
         intro w_ hS_
         have c_ : w_.cell? ⟨pb, 4, none⟩ = some (.slice (some ⟨g1, 0, none⟩) 16 c1) := hS_.2.1 4 _ rfl
         go_simp
         try with_reducible rfl
        simp only [Act.put, List.getElem_toArray, List.getElem_cons_succ, List.getElem_cons_zero, List.setIfInBounds_toArray, List.set_cons_succ, List.set_cons_zero]
        refine wpAnyH_one (k := 7) (fuel := 0) (by kernel_rfl) rfl (by kernel_rfl) (fun K_ hK => ?_)
        refine wp_copyR _ _ 22 22 rfl 5 Tryz.underlying22 (by kernel_rfl) gB 1 16 16 ⟨g1, 0, none⟩ 16 c1 rfl rfl (evl 1 n16 (.slice ha hl hc) (.slice ba bn bc)) 51 RB ((bl nonce).map (Value.int .u8)) (by rw [List.length_map, bl_len, hn]; rfl) (fun j v hv => by rw [addr_add]; exact HS.2.2.1 j v hv) (by rw [List.length_map, bl_len, hn, evl_size _ _ n16_len]; decide) (fun v hv => by obtain ⟨x, _, rfl⟩ := List.mem_map.1 hv; rfl) ?_
        rw [evl_copy 1 nonce hn]
        have HS' : (fun W : World => W.heap[gV]? = some (.cells #[.int .u64 0, .slice none 0 0, .slice (some ⟨pb, 0, none⟩) 4 pc] 78 (0, 0)) ∧ W.rangeAt pb 0 [.int .u64 1, u0, .slice none 0 0, .int .u64 0, .slice (some ⟨g1, 0, none⟩) 16 c1, .slice none 0 0, .int .u64 0, (.slice ha hl hc), .slice none 0 0, .int .u64 0, (.slice ba bn bc), .slice none 0 0] ∧ W.rangeAt g1 0 ((bl nonce).map (Value.int .u8)) ∧ W.cell? ⟨fb, 2, none⟩ = some (.int .u64 1)) (w10.setRow gB (evl 1 nonce (.slice ha hl hc) (.slice ba bn bc))) := ⟨(setRow_other w10 gB gV (evl 1 nonce (.slice ha hl hc) (.slice ba bn bc)) (by omega)).trans HS.1, mv_range HS.2.1 (setRow_other w10 gB pb (evl 1 nonce (.slice ha hl hc) (.slice ba bn bc)) (by omega)), mv_range HS.2.2.1 (setRow_other w10 gB g1 (evl 1 nonce (.slice ha hl hc) (.slice ba bn bc)) (by omega)), (World.cell?_of_block (w := w10) (a := ⟨fb, 2, none⟩) (setRow_other w10 gB fb (evl 1 nonce (.slice ha hl hc) (.slice ba bn bc)) (by omega))).trans HS.2.2.2⟩
        replace R0 := (setRow_other w10 gB (w.heap.size) (evl 1 nonce (.slice ha hl hc) (.slice ba bn bc)) (by omega)).trans R0
        replace R3 := (setRow_other w10 gB (w.heap.size + 1) (evl 1 nonce (.slice ha hl hc) (.slice ba bn bc)) (by omega)).trans R3
        replace oH := own_othR oH oHg (evl 1 nonce (.slice ha hl hc) (.slice ba bn bc))
        replace oB := own_othR oB oBg (evl 1 nonce (.slice ha hl hc) (.slice ba bn bc))
        replace RB := setRow_heap w10 gB _ (evl 1 nonce (.slice ha hl hc) (.slice ba bn bc)) _ _ RB
        replace hw := below_setRow hw (show w.heap.size ≤ gB by omega) (evl 1 nonce (.slice ha hl hc) (.slice ba bn bc))
        refine hK _ _ HS' ?_
        simp only [Act.put, List.getElem_toArray, List.getElem_cons_succ, List.getElem_cons_zero, List.setIfInBounds_toArray, List.set_cons_succ, List.set_cons_zero]
        clear hK HS HS'
        generalize w10.setRow gB (evl 1 nonce (.slice ha hl hc) (.slice ba bn bc)) = w11 at *
        refine wpAnyH_done (by kernel_rfl) ?_ _
        have c0 : w11.cell? ⟨gB, 0, none⟩ = some (.int .i64 1) := by rw [cell_of_row _ _ _ _ _ _ RB]; exact evl_0 _ _ _ _
        have c18 : w11.cell? ⟨gB, 18, none⟩ = some (.slice ba bn bc) := by rw [cell_of_row _ _ _ _ _ _ RB]; exact evl_b _ _ hn _ _
        clear sk oHg oBg
        go_wp2_with (fail)
        refine (cHo.out w11).mono ?_
        rintro e_ y1 ⟨rfl, hb_⟩
        have l0_ := lt_of_row R0
        have l3_ := lt_of_row R3
        have lB_ := lt_of_row RB
        replace R0 := keep hb_ R0
        replace R3 := keep hb_ R3
        replace RB := keep hb_ RB
        replace oH := oH.keep hb_
        replace oB := oB.keep hb_
        replace hw := Below.after hw hb_
        clear hb_ cHo c0 c18
        by_cases hkk : 80 ≤ bn ∧ bn ≤ mo 1 ∧ bkd (dg 1) (bn - 16) = bn - 16
        ·rw [decide_eq_true hkk]
         rw [if_pos hkk.2.2] at hpf
         replace hkk := hide hkk
         have oneF : (#[Value.int .i64 0, .int .i64 0, .int .i64 0] : Array Value).all (·.oneCell') = true := by simp [Value.oneCell']
         have R3b := (setRow_other y1 (w.heap.size) (w.heap.size + 1) (evl 1 nonce (.slice ha hl hc) (.slice ba bn bc)) (by omega)).trans R3
         go_wp2_with (first | (refine wpList_load_want rfl 51 _ rfl gB rfl 51 (evl 1 nonce (.slice ha hl hc) (.slice ba bn bc)) (0, 0) _ RB Tryz.underlying51 rfl (evl_info _ _ hn _ _) ?_) | (refine wpList_build_want rfl 35 _ rfl [] rfl #[.int .i64 0, .int .i64 0, .int .i64 0] builtZeR ?_) | (refine wpList_store_row rfl 51 _ _ rfl (w.heap.size) (evl 1 nonce (.slice ha hl hc) (.slice ba bn bc)) rfl rfl 51 _ R0 (evl_info _ _ hn _ _) (by rw [evl_size _ _ n16_len, evl_size _ _ hn]) (evl_one _ _ _ _ _ _ _ _) ?_) | (refine wpList_store_row rfl 35 _ _ rfl (w.heap.size + 1) #[.int .i64 0, .int .i64 0, .int .i64 0] rfl rfl 35 _ R3b infoFt rfl oneF ?_) | fail)
         clear R3b RB
         replace R3 := (setRow_other y1 (w.heap.size) (w.heap.size + 1) (evl 1 nonce (.slice ha hl hc) (.slice ba bn bc)) (by omega)).trans R3
         replace oH := own_setRow (g := w.heap.size) oH (by omega) (evl 1 nonce (.slice ha hl hc) (.slice ba bn bc))
         replace oB := own_setRow (g := w.heap.size) oB (by omega) (evl 1 nonce (.slice ha hl hc) (.slice ba bn bc))
         replace R0 := setRow_heap y1 (w.heap.size) _ ((evl 1 nonce (.slice ha hl hc) (.slice ba bn bc))) _ _ R0
         replace hw := below_setRow hw (show w.heap.size ≤ w.heap.size by omega) (evl 1 nonce (.slice ha hl hc) (.slice ba bn bc))
         generalize y1.setRow (w.heap.size) (evl 1 nonce (.slice ha hl hc) (.slice ba bn bc)) = x3 at *
         replace R0 := (setRow_other x3 (w.heap.size + 1) (w.heap.size) #[.int .i64 0, .int .i64 0, .int .i64 0] (by omega)).trans R0
         replace oH := own_setRow (g := w.heap.size + 1) oH (by omega) #[.int .i64 0, .int .i64 0, .int .i64 0]
         replace oB := own_setRow (g := w.heap.size + 1) oB (by omega) #[.int .i64 0, .int .i64 0, .int .i64 0]
         replace R3 := setRow_heap x3 (w.heap.size + 1) _ (#[.int .i64 0, .int .i64 0, .int .i64 0]) _ _ R3
         replace hw := below_setRow hw (show w.heap.size ≤ w.heap.size + 1 by omega) #[.int .i64 0, .int .i64 0, .int .i64 0]
         exact bodyPost_ret (v := .tuple #[.agg (evl 1 nonce (.slice ha hl hc) (.slice ba bn bc)), .agg #[.int .i64 0, .int .i64 0, .int .i64 0]]) (results_cell_cell Tryz.results23 _ _ (w.heap.size) (w.heap.size + 1) _ _ _ _ _ _ _ _ rfl R0 Tryz.underlying51 rfl (evl_info _ _ hn _ _) rfl R3 Tryz.underlying35 rfl infoFt) rfl ⟨by
          unfold RrE
          rw [hpf.out, hV1.out, hfs.out]
          show ∃ ha hc ba bc, _ = Ending.returned (.tuple #[.agg (evl 1 nonce (.slice ha hd.length hc) (.slice ba bd.length bc)), .agg #[.int .i64 0, .int .i64 0, .int .i64 0]]) ∧ Own _ _ (.slice ha hd.length hc) hd ∧ Own _ _ (.slice ba bd.length bc) bd
          rw [hl60.out, hbn.out]
          exact ⟨ha, hc, ba, bc, rfl, own_down oH hlow, own_down oB hlow⟩, hw⟩
        ·rw [decide_eq_false hkk]
         rw [if_neg (fun h => hkk ⟨h80.out, hmo.out, h⟩)] at hpf
         replace hkk := hide hkk
         clear oH oB RB
         have oneF : (#[Value.int .i64 0, .int .i64 82, .int .i64 102] : Array Value).all (·.oneCell') = true := by simp [Value.oneCell']
         have R3b := (setRow_other y1 (w.heap.size) (w.heap.size + 1) (evl 0 n16 (.slice none 0 0) (.slice none 0 0)) (by omega)).trans R3
         go_wp2_with (first | (refine wpList_build_want rfl 51 _ rfl [] rfl (evl 0 n16 (.slice none 0 0) (.slice none 0 0)) builtE0 ?_) | (refine wpList_build_want rfl 35 _ rfl [(1, .int .i64 82), (2, .int .i64 102)] rfl #[.int .i64 0, .int .i64 82, .int .i64 102] (builtF2 82 102) ?_) | (refine wpList_store_row rfl 51 _ _ rfl (w.heap.size) (evl 0 n16 (.slice none 0 0) (.slice none 0 0)) rfl rfl 51 _ R0 (evl_info _ _ n16_len _ _) rfl (evl_one _ _ _ _ _ _ _ _) ?_) | (refine wpList_store_row rfl 35 _ _ rfl (w.heap.size + 1) #[.int .i64 0, .int .i64 82, .int .i64 102] rfl rfl 35 _ R3b infoFt rfl oneF ?_) | fail)
         clear R3b
         replace R3 := (setRow_other y1 (w.heap.size) (w.heap.size + 1) (evl 0 n16 (.slice none 0 0) (.slice none 0 0)) (by omega)).trans R3
         replace R0 := setRow_heap y1 (w.heap.size) _ ((evl 0 n16 (.slice none 0 0) (.slice none 0 0))) _ _ R0
         replace hw := below_setRow hw (show w.heap.size ≤ w.heap.size by omega) (evl 0 n16 (.slice none 0 0) (.slice none 0 0))
         generalize y1.setRow (w.heap.size) (evl 0 n16 (.slice none 0 0) (.slice none 0 0)) = x3 at *
         replace R0 := (setRow_other x3 (w.heap.size + 1) (w.heap.size) #[.int .i64 0, .int .i64 82, .int .i64 102] (by omega)).trans R0
         replace R3 := setRow_heap x3 (w.heap.size + 1) _ (#[.int .i64 0, .int .i64 82, .int .i64 102]) _ _ R3
         replace hw := below_setRow hw (show w.heap.size ≤ w.heap.size + 1 by omega) #[.int .i64 0, .int .i64 82, .int .i64 102]
         exact bodyPost_ret (v := .tuple #[.agg (evl 0 n16 (.slice none 0 0) (.slice none 0 0)), .agg #[.int .i64 0, .int .i64 82, .int .i64 102]]) (results_cell_cell Tryz.results23 _ _ (w.heap.size) (w.heap.size + 1) _ _ _ _ _ _ _ _ rfl R0 Tryz.underlying51 rfl (evl_info _ _ n16_len _ _) rfl R3 Tryz.underlying35 rfl infoFt) rfl ⟨by unfold RrE; rw [hpf.out]; rfl, hw⟩
      ·have hV1 : Hid (riV d = 2) := hide hV
       replace k2 : w2.cell? ⟨fb, 2, none⟩ = some (.int .u64 2) := k2
       clear hV
       go_wp2_with (fail)
       refine (r_shapeE2 w2).mono ?_
       rintro e_ x2 ⟨sv, rfl, ⟨q, rfl, hq1, hC⟩, hb_⟩
       have l0_ := lt_of_row R3
       replace R0 := keep hb_ R0
       replace R3 := keep hb_ R3
       replace hB := hB.keep hb_
       replace k2 := (hb_.cell (p := ⟨fb, 2, none⟩) (show fb < _ by omega)).trans k2
       replace hw := Below.after hw hb_
       have szc := hb_.size
       clear hb_
       have cDe := hide (r_DecodeF esl2_flat d b x2 hC hB hcap)
       clear hC
       go_wp2_with (fail)
       refine cDe.out.mono ?_
       rintro e_ w3 ⟨hD, hb_⟩
       have sz2 := hw.size
       replace R0 := keep hb_ R0
       replace R3 := keep hb_ R3
       replace k2 := (hb_.cell (p := ⟨fb, 2, none⟩) (show fb < _ by omega)).trans k2
       replace hw := Below.after hw hb_
       have sz3 := hb_.size
       clear hb_ cDe hB hcap
       obtain ⟨R, hR⟩ : ∃ R, dec8 (esl 2) d 0 = R := ⟨_, rfl⟩
       unfold DcE at hD
       rw [hR] at hD
       cases R with
       | some x =>
        simp only at hD
        subst hD
        have hpf : Hid (paF d = some x) := hide (by unfold paF; rw [if_neg (by rw [hr3.out]; simp), hV1.out, hR])
        have hwy := dec8_why hR
        have bE : (x.why != 0) = true := by simpa using hwy
        have bE2 : (x.why == 0) = false := by simpa using hwy
        clear hR k2
        unfold frw
        have rZ := hp2_0 w3 (.cells #[.int .u64 0, .slice none 0 0, .slice none 0 0] 78) (.cells #[.int .i64 0, .int .i64 0, .int .i64 0] 35)
        have rF := hp2_1 w3 (.cells #[.int .u64 0, .slice none 0 0, .slice none 0 0] 78) (.cells #[.int .i64 0, .int .i64 0, .int .i64 0] 35)
        have oneA : (#[Value.int .u64 0, .slice none 0 0, .slice none 0 0] : Array Value).all (·.oneCell') = true := by simp [Value.oneCell']
        have oneE : (#[Value.int .i64 x.line, .int .i64 x.at_, .int .i64 x.why] : Array Value).all (·.oneCell') = true := by simp [Value.oneCell']
        have rF2 := (setRow_other ((w3.alloc (.cells #[.int .u64 0, .slice none 0 0, .slice none 0 0] 78)).alloc (.cells #[.int .i64 0, .int .i64 0, .int .i64 0] 35)) w3.heap.size (w3.heap.size + 1) #[.int .u64 0, .slice none 0 0, .slice none 0 0] (by omega)).trans rF
        have rV2 := setRow_heap _ w3.heap.size _ #[.int .u64 0, .slice none 0 0, .slice none 0 0] _ _ rZ
        have rV := (setRow_other (((w3.alloc (.cells #[.int .u64 0, .slice none 0 0, .slice none 0 0] 78)).alloc (.cells #[.int .i64 0, .int .i64 0, .int .i64 0] 35)).setRow w3.heap.size #[.int .u64 0, .slice none 0 0, .slice none 0 0]) (w3.heap.size + 1) w3.heap.size #[.int .i64 x.line, .int .i64 x.at_, .int .i64 x.why] (by omega)).trans rV2
        have rE := setRow_heap _ (w3.heap.size + 1) _ #[.int .i64 x.line, .int .i64 x.at_, .int .i64 x.why] _ _ rF2
        have hb5 : Below w3.heap.size w3 ((((w3.alloc (.cells #[.int .u64 0, .slice none 0 0, .slice none 0 0] 78)).alloc (.cells #[.int .i64 0, .int .i64 0, .int .i64 0] 35)).setRow w3.heap.size #[.int .u64 0, .slice none 0 0, .slice none 0 0]).setRow (w3.heap.size + 1) #[.int .i64 x.line, .int .i64 x.at_, .int .i64 x.why]) := below_setRow (below_setRow (((Below.refl _ _).alloc (Nat.le_refl _) _).alloc (by simp) _) (Nat.le_refl _) #[.int .u64 0, .slice none 0 0, .slice none 0 0]) (by omega) #[.int .i64 x.line, .int .i64 x.at_, .int .i64 x.why]
        have l03 := lt_of_row R0
        have l33 := lt_of_row R3
        replace R0 := keep hb5 R0
        replace R3 := keep hb5 R3
        replace hw := Below.after hw hb5
        have lV3 := lt_of_row rV
        have lE3 := lt_of_row rE
        clear rV2
        have A1 := hide R0
        have A2 := hide hw
        have A3 := hide R3
        have A7 := hide rE
        have A8 := hide lE3
        have cW := cell_of_row _ _ 2 _ _ _ rE
        clear R0 hw R3 rE lV3 lE3 rV hb5
        go_upto_region 11 with (first | (refine wpList_store_row rfl 78 _ _ rfl w3.heap.size #[.int .u64 0, .slice none 0 0, .slice none 0 0] rfl rfl 78 _ rZ infoV rfl oneA ?_) | (refine wpList_store_row rfl 35 _ _ rfl (w3.heap.size + 1) #[.int .i64 x.line, .int .i64 x.at_, .int .i64 x.why] rfl rfl 35 _ rF2 infoFt rfl oneE ?_) | fail)
        simp only [Act.put]
        clear rZ rF rF2
        generalize (((w3.alloc (.cells #[.int .u64 0, .slice none 0 0, .slice none 0 0] 78)).alloc (.cells #[.int .i64 0, .int .i64 0, .int .i64 0] 35)).setRow w3.heap.size #[.int .u64 0, .slice none 0 0, .slice none 0 0]).setRow (w3.heap.size + 1) #[.int .i64 x.line, .int .i64 x.at_, .int .i64 x.why] = w6 at *
        have R0 := A1.out
        have hw := A2.out
        have R3 := A3.out
        have RE := A7.out
        have lE6 := A8.out
        clear A1 A2 A3 A7 A8
        generalize hgE : w3.heap.size + 1 = gE at *
        have hgE2 : w.heap.size + 1 < gE := by omega
        clear hgE
        go_upto_region 12 with (fail)
        clear cW
        have hbd : Below w6.heap.size w6 w6.drew := below_drN (Below.refl _ _) 1
        replace RE := keep hbd RE
        replace R0 := keep hbd R0
        replace R3 := keep hbd R3
        replace hw := Below.after hw hbd
        clear hbd
        refine wp_region_held (S := fun W : World => W.heap[gE]? = some (.cells #[.int .i64 x.line, .int .i64 x.at_, .int .i64 x.why] 35 (0, 0))) (by kernel_rfl) ?_
        change wpAnyH _ _ _ _ _ _ _ _ (World.drew _)
        generalize w6.drew = z1 at *
        refine wpAnyH_take (i := 0) (v := .agg (evl 0 n16 (.slice none 0 0) (.slice none 0 0))) rfl (by kernel_rfl) (by kernel_rfl) (by kernel_rfl) (fun _ _ _ h => h) (Or.inl ⟨by rfl, ?yc88⟩) RE ?rc88
        case yc88 =>
         intro w_ hS_
         simp only [List.getElem_toArray, List.getElem_cons_zero]
         exact run_build_op 51 _ rfl [] rfl _ builtE0
        simp only [Act.put, List.getElem_toArray, List.getElem_cons_zero, List.setIfInBounds_toArray, List.set_cons_succ, List.set_cons_zero]
        refine wpAnyH_take (i := 1) (v := .agg #[.int .i64 x.line, .int .i64 x.at_, .int .i64 x.why]) rfl (by kernel_rfl) (by kernel_rfl) (by kernel_rfl) (fun _ _ _ h => h) (yieldsIf_load_mid (by rfl) 35 _ rfl gE 0 rfl [.int .i64 x.line, .int .i64 x.at_, .int .i64 x.why] _ (fun _ h => range_row ⟨_, h⟩) Tryz.underlying35 rfl infoFt) RE ?_
        simp only [Act.put, List.getElem_toArray, List.getElem_cons_succ, List.getElem_cons_zero, List.setIfInBounds_toArray, List.set_cons_succ, List.set_cons_zero]
        refine wpAnyH_one (k := 2) (fuel := 1) (by kernel_rfl) rfl (by kernel_rfl) (fun K_ hK_ => ?_)
        refine wp_store_row 51 _ _ rfl (w.heap.size) (evl 0 n16 (.slice none 0 0) (.slice none 0 0)) rfl rfl 51 _ R0 (evl_info _ _ n16_len _ _) rfl (evl_one _ _ _ _ _ _ _ _) ?_
        replace RE := (setRow_other z1 (w.heap.size) gE (evl 0 n16 (.slice none 0 0) (.slice none 0 0)) (by omega)).trans RE
        replace R3 := (setRow_other z1 (w.heap.size) (w.heap.size + 1) (evl 0 n16 (.slice none 0 0) (.slice none 0 0)) (by omega)).trans R3
        replace R0 := setRow_heap z1 (w.heap.size) _ ((evl 0 n16 (.slice none 0 0) (.slice none 0 0))) _ _ R0
        replace hw := below_setRow hw (show w.heap.size ≤ w.heap.size by omega) (evl 0 n16 (.slice none 0 0) (.slice none 0 0))
        refine hK_ _ _ RE ?_
        simp only [Act.put, List.getElem_toArray, List.getElem_cons_succ, List.getElem_cons_zero]
        clear hK_
        generalize z1.setRow (w.heap.size) (evl 0 n16 (.slice none 0 0) (.slice none 0 0)) = z2 at *
        refine wpAnyH_one (k := 3) (fuel := 0) (by kernel_rfl) rfl (by kernel_rfl) (fun K_ hK_ => ?_)
        refine wp_store_row 35 _ _ rfl (w.heap.size + 1) #[.int .i64 x.line, .int .i64 x.at_, .int .i64 x.why] rfl rfl 35 _ R3 infoFt rfl oneE ?_
        replace RE := (setRow_other z2 (w.heap.size + 1) gE #[.int .i64 x.line, .int .i64 x.at_, .int .i64 x.why] (by omega)).trans RE
        replace R0 := (setRow_other z2 (w.heap.size + 1) (w.heap.size) #[.int .i64 x.line, .int .i64 x.at_, .int .i64 x.why] (by omega)).trans R0
        replace R3 := setRow_heap z2 (w.heap.size + 1) _ (#[.int .i64 x.line, .int .i64 x.at_, .int .i64 x.why]) _ _ R3
        replace hw := below_setRow hw (show w.heap.size ≤ w.heap.size + 1 by omega) #[.int .i64 x.line, .int .i64 x.at_, .int .i64 x.why]
        refine hK_ _ _ RE ?_
        simp only [Act.put, List.getElem_toArray, List.getElem_cons_succ, List.getElem_cons_zero]
        clear hK_
        refine wpAnyH_done (by kernel_rfl) ?_ _
        go_wp2_with (fail)
        exact bodyPost_ret (v := .tuple #[.agg (evl 0 n16 (.slice none 0 0) (.slice none 0 0)), .agg #[.int .i64 x.line, .int .i64 x.at_, .int .i64 x.why]]) (results_cell_cell Tryz.results23 _ _ (w.heap.size) (w.heap.size + 1) _ _ _ _ _ _ _ _ rfl R0 Tryz.underlying51 rfl (evl_info _ _ n16_len _ _) rfl R3 Tryz.underlying35 rfl infoFt) rfl ⟨by unfold RrE; rw [hpf.out]; rfl, hw⟩
       | none =>
        obtain ⟨pv, fv, us, rfl, hO, hF⟩ := hD
        obtain ⟨hd0, nonce, hd, bd, hfs, hn, h60, h80, hmo⟩ := dec_esl hR
        rw [hfs] at hO hF hN
        have hn4 : n = 4 := hN.out.symm
        subst hn4
        obtain ⟨pb, pc, rfl, hpb1, hpb2, hra⟩ := own_rangeR hO (by simp [efs])
        have hu : us.length = 4 := hF.2.1
        obtain ⟨g1, c1, e1, hc1, hgb1, hgl1, hr1⟩ := own_range (hF.2.2.1 1 (by omega)) (by show 0 < nonce.length; omega)
        have oH : Own w3 x2.heap.size (gv us 2) hd := hF.2.2.1 2 (by omega)
        have oB : Own w3 x2.heap.size (gv us 3) bd := hF.2.2.1 3 (by omega)
        obtain ⟨ha, hc, eH⟩ := slen_own oH
        obtain ⟨ba, bc, eB⟩ := slen_own oB
        obtain ⟨hl, hl60⟩ : ∃ hl, hd.length = hl := ⟨_, rfl⟩
        obtain ⟨bn, hbn⟩ : ∃ bn, bd.length = bn := ⟨_, rfl⟩
        rw [hl60] at eH
        rw [hbn] at eB h80 hmo
        rw [eH] at oH
        rw [eB] at oB
        have hvr : vrk (efs 2 nonce hd bd) us 4 = [.int .u64 2, gv us 0, .slice none 0 0, .int .u64 0, .slice (some ⟨g1, 0, none⟩) 16 c1, .slice none 0 0, .int .u64 0, (.slice ha hl hc), .slice none 0 0, .int .u64 0, (.slice ba bn bc), .slice none 0 0] := by
         have q1 : gv us 1 = .slice (some ⟨g1, 0, none⟩) 16 c1 := by rw [e1]; show Value.slice _ nonce.length _ = _; rw [hn]
         rw [← q1, ← eH, ← eB]
         rfl
        have hra' : w3.rangeAt pb 0 [.int .u64 2, gv us 0, .slice none 0 0, .int .u64 0, .slice (some ⟨g1, 0, none⟩) 16 c1, .slice none 0 0, .int .u64 0, (.slice ha hl hc), .slice none 0 0, .int .u64 0, (.slice ba bn bc), .slice none 0 0] := by rw [← hvr]; exact hra
        replace hra := hra'
        replace hr1 : w3.rangeAt g1 0 ((bl nonce).map (Value.int .u8)) := hr1
        have hpf : Hid (paF d = if bkd (dg 2) (bn - 16) = bn - 16 then none else some ⟨0, 82, 102⟩) := hide (by
         unfold paF
         rw [if_neg (by rw [hr3.out]; simp), hV1.out, hR]
         simp only
         rw [hfs, show (gf (efs 2 nonce hd bd) 3).dat = bd from rfl, hbn])
        have hlow : w.heap.size ≤ x2.heap.size := by omega
        have cHo := hide (r_holds2 bn (by have := (show mo 2 = 1179664 from rfl); omega))
        replace hfs := hide hfs
        replace hl60 := hide hl60
        replace hbn := hide hbn
        replace h80 := hide h80
        replace hmo := hide hmo
        clear hra' hvr e1 hO hF hd0 hu hc1 eH eB hR h60
        generalize gv us 0 = u0 at *
        have rZ := hp2_0 w3 (.cells #[.int .u64 0, .slice none 0 0, .slice none 0 0] 78) (.cells #[.int .i64 0, .int .i64 0, .int .i64 0] 35)
        have rF := hp2_1 w3 (.cells #[.int .u64 0, .slice none 0 0, .slice none 0 0] 78) (.cells #[.int .i64 0, .int .i64 0, .int .i64 0] 35)
        have oneA : (#[Value.int .u64 0, .slice none 0 0, .slice (some ⟨pb, 0, none⟩) 4 pc] : Array Value).all (·.oneCell') = true := by simp [Value.oneCell']
        have oneE : (#[Value.int .i64 0, .int .i64 0, .int .i64 0] : Array Value).all (·.oneCell') = true := by simp [Value.oneCell']
        have rF2 := (setRow_other ((w3.alloc (.cells #[.int .u64 0, .slice none 0 0, .slice none 0 0] 78)).alloc (.cells #[.int .i64 0, .int .i64 0, .int .i64 0] 35)) w3.heap.size (w3.heap.size + 1) #[.int .u64 0, .slice none 0 0, .slice (some ⟨pb, 0, none⟩) 4 pc] (by omega)).trans rF
        have rV2 := setRow_heap _ w3.heap.size _ #[.int .u64 0, .slice none 0 0, .slice (some ⟨pb, 0, none⟩) 4 pc] _ _ rZ
        have rV := (setRow_other (((w3.alloc (.cells #[.int .u64 0, .slice none 0 0, .slice none 0 0] 78)).alloc (.cells #[.int .i64 0, .int .i64 0, .int .i64 0] 35)).setRow w3.heap.size #[.int .u64 0, .slice none 0 0, .slice (some ⟨pb, 0, none⟩) 4 pc]) (w3.heap.size + 1) w3.heap.size #[.int .i64 0, .int .i64 0, .int .i64 0] (by omega)).trans rV2
        have rE := setRow_heap _ (w3.heap.size + 1) _ #[.int .i64 0, .int .i64 0, .int .i64 0] _ _ rF2
        have hb5 : Below w3.heap.size w3 ((((w3.alloc (.cells #[.int .u64 0, .slice none 0 0, .slice none 0 0] 78)).alloc (.cells #[.int .i64 0, .int .i64 0, .int .i64 0] 35)).setRow w3.heap.size #[.int .u64 0, .slice none 0 0, .slice (some ⟨pb, 0, none⟩) 4 pc]).setRow (w3.heap.size + 1) #[.int .i64 0, .int .i64 0, .int .i64 0]) := below_setRow (below_setRow (((Below.refl _ _).alloc (Nat.le_refl _) _).alloc (by simp) _) (Nat.le_refl _) #[.int .u64 0, .slice none 0 0, .slice (some ⟨pb, 0, none⟩) 4 pc]) (by omega) #[.int .i64 0, .int .i64 0, .int .i64 0]
        have l03 := lt_of_row R0
        have l33 := lt_of_row R3
        replace R0 := keep hb5 R0
        replace R3 := keep hb5 R3
        replace hw := Below.after hw hb5
        have lV3 := lt_of_row rV
        have lE3 := lt_of_row rE
        clear rV2
        replace hra := rangeS_keep2 hra hb5 hpb2
        replace hr1 := rangeS_keep2 hr1 hb5 hgl1
        replace k2 := (hb5.cell (p := ⟨fb, 2, none⟩) (show fb < _ by omega)).trans k2
        replace oH := oH.keep hb5
        replace oB := oB.keep hb5
        have A1 := hide R0
        have A2 := hide hw
        have A3 := hide hra
        have A4 := hide hr1
        have A5 := hide R3
        have A6 := hide oH
        have A9 := hide oB
        have A7 := hide rV
        have A8 := hide lV3
        have A10 := hide k2
        have cW := cell_of_row _ _ 2 _ _ _ rE
        clear R0 R3 hw hra hr1 rV lV3 lE3 rE hb5 oH oB k2
        go_upto_region 11 with (first | (refine wpList_store_row rfl 78 _ _ rfl w3.heap.size #[.int .u64 0, .slice none 0 0, .slice (some ⟨pb, 0, none⟩) 4 pc] rfl rfl 78 _ rZ infoV rfl oneA ?_) | (refine wpList_store_row rfl 35 _ _ rfl (w3.heap.size + 1) #[.int .i64 0, .int .i64 0, .int .i64 0] rfl rfl 35 _ rF2 infoFt rfl oneE ?_) | fail)
        simp only [Act.put]
        clear rZ rF rF2
        generalize (((w3.alloc (.cells #[.int .u64 0, .slice none 0 0, .slice none 0 0] 78)).alloc (.cells #[.int .i64 0, .int .i64 0, .int .i64 0] 35)).setRow w3.heap.size #[.int .u64 0, .slice none 0 0, .slice (some ⟨pb, 0, none⟩) 4 pc]).setRow (w3.heap.size + 1) #[.int .i64 0, .int .i64 0, .int .i64 0] = w6 at *
        go_upto_region 13 with (fail)
        have R0 := A1.out
        have hw := A2.out
        have hra := A3.out
        have hr1 := A4.out
        have R3 := A5.out
        have oH := A6.out
        have oB := A9.out
        have rV := A7.out
        have lV6 := A8.out
        have k2 := A10.out
        clear A1 A2 A3 A4 A5 A6 A9 A7 A8 A10 cW
        have hfV : fb < w3.heap.size := by omega
        have hxV : x2.heap.size ≤ w3.heap.size := by omega
        generalize w3.heap.size = gV at *
        have HS : (fun W : World => W.heap[gV]? = some (.cells #[.int .u64 0, .slice none 0 0, .slice (some ⟨pb, 0, none⟩) 4 pc] 78 (0, 0)) ∧ W.rangeAt pb 0 [.int .u64 2, u0, .slice none 0 0, .int .u64 0, .slice (some ⟨g1, 0, none⟩) 16 c1, .slice none 0 0, .int .u64 0, (.slice ha hl hc), .slice none 0 0, .int .u64 0, (.slice ba bn bc), .slice none 0 0] ∧ W.rangeAt g1 0 ((bl nonce).map (Value.int .u8)) ∧ W.cell? ⟨fb, 2, none⟩ = some (.int .u64 2)) w6.drew := ⟨rV, hra, hr1, k2⟩
        have hbd : Below w6.heap.size w6 w6.drew := below_drN (Below.refl _ _) 1
        replace R0 := keep hbd R0
        replace R3 := keep hbd R3
        replace oH := oH.keep hbd
        replace oB := oB.keep hbd
        replace hw := Below.after hw hbd
        have szd := hbd.size
        clear hbd rV hra hr1 k2
        refine wp_region_held (S := fun W : World => W.heap[gV]? = some (.cells #[.int .u64 0, .slice none 0 0, .slice (some ⟨pb, 0, none⟩) 4 pc] 78 (0, 0)) ∧ W.rangeAt pb 0 [.int .u64 2, u0, .slice none 0 0, .int .u64 0, .slice (some ⟨g1, 0, none⟩) 16 c1, .slice none 0 0, .int .u64 0, (.slice ha hl hc), .slice none 0 0, .int .u64 0, (.slice ba bn bc), .slice none 0 0] ∧ W.rangeAt g1 0 ((bl nonce).map (Value.int .u8)) ∧ W.cell? ⟨fb, 2, none⟩ = some (.int .u64 2)) (by kernel_rfl) ?_
        change wpAnyH _ _ _ _ _ _ _ _ (World.drew _)
        generalize w6.drew = w7 at *
        refine wpAnyH_take (i := 0) (v := ?vc113) rfl (by kernel_rfl) (by kernel_rfl) (by kernel_rfl) (fun _ _ _ h => h) (Or.inl ⟨by rfl, ?yc113⟩) HS ?rc113
        case yc113 =>
         intro w_ hS_
         go_simp
         try with_reducible rfl
        simp only [Act.put, List.getElem_toArray, List.getElem_cons_zero, List.setIfInBounds_toArray, List.set_cons_succ, List.set_cons_zero]
        refine wpAnyH_take (i := 1) (v := .pointer (some ⟨fb, 0, none⟩)) rfl (by kernel_rfl) (by kernel_rfl) (by kernel_rfl) (fun _ _ _ h => h) (Or.inl ⟨by rfl, ?yc114⟩) HS ?rc114
        case yc114 =>
         intro w_ hS_
         go_simp
         try with_reducible rfl
        simp only [Act.put, List.getElem_toArray, List.getElem_cons_succ, List.getElem_cons_zero, List.setIfInBounds_toArray, List.set_cons_succ, List.set_cons_zero]
        refine wpAnyH_take (i := 2) (v := ?vc115) rfl (by kernel_rfl) (by kernel_rfl) (by kernel_rfl) (fun _ _ _ h => h) (Or.inl ⟨by rfl, ?yc115⟩) HS ?rc115
        case yc115 =>
         intro w_ hS_
         go_simp
         try with_reducible rfl
        simp only [Act.put, List.getElem_toArray, List.getElem_cons_succ, List.getElem_cons_zero, List.setIfInBounds_toArray, List.set_cons_succ, List.set_cons_zero]
        refine wpAnyH_take (i := 3) (v := .int .u64 2) rfl (by kernel_rfl) (by kernel_rfl) (by kernel_rfl) (fun _ _ _ h => h) (Or.inl ⟨by rfl, ?yc116⟩) HS ?rc116
        case yc116 =>
         intro w_ hS_
         have c_ := hS_.2.2.2
         go_simp
         try with_reducible rfl
        simp only [Act.put, List.getElem_toArray, List.getElem_cons_succ, List.getElem_cons_zero, List.setIfInBounds_toArray, List.set_cons_succ, List.set_cons_zero]
        refine wpAnyH_take (i := 4) (v := .int .i64 2) rfl (by kernel_rfl) (by kernel_rfl) (by kernel_rfl) (fun _ _ _ h => h) (Or.inl ⟨by rfl, ?yc117⟩) HS ?rc117
        case yc117 =>
         intro w_ hS_
         go_simp
         rfl
        simp only [Act.put, List.getElem_toArray, List.getElem_cons_succ, List.getElem_cons_zero, List.setIfInBounds_toArray, List.set_cons_succ, List.set_cons_zero]
        refine wpAnyH_take (i := 5) (v := ?vc118) rfl (by kernel_rfl) (by kernel_rfl) (by kernel_rfl) (fun _ _ _ h => h) (Or.inl ⟨by rfl, ?yc118⟩) HS ?rc118
        case yc118 =>
         intro w_ hS_
         go_simp
         try with_reducible rfl
        simp only [Act.put, List.getElem_toArray, List.getElem_cons_succ, List.getElem_cons_zero, List.setIfInBounds_toArray, List.set_cons_succ, List.set_cons_zero]
        refine wpAnyH_take (i := 6) (v := .slice (some ⟨pb, 0, none⟩) 4 pc) rfl (by kernel_rfl) (by kernel_rfl) (by kernel_rfl) (fun _ _ _ h => h) (Or.inl ⟨by rfl, ?yc119⟩) HS ?rc119
        case yc119 =>
         intro w_ hS_
         have c_ := cell_of_row _ _ 2 _ _ _ hS_.1
         go_simp
         try with_reducible rfl
        simp only [Act.put, List.getElem_toArray, List.getElem_cons_succ, List.getElem_cons_zero, List.setIfInBounds_toArray, List.set_cons_succ, List.set_cons_zero]
        refine wpAnyH_take (i := 7) (v := ?vc120) rfl (by kernel_rfl) (by kernel_rfl) (by kernel_rfl) (fun _ _ _ h => h) (Or.inl ⟨by rfl, ?yc120⟩) HS ?rc120
        case yc120 =>
         intro w_ hS_
         go_simp
         try with_reducible rfl
        simp only [Act.put, List.getElem_toArray, List.getElem_cons_succ, List.getElem_cons_zero, List.setIfInBounds_toArray, List.set_cons_succ, List.set_cons_zero]
        refine wpAnyH_take (i := 8) (v := ?vc121) rfl (by kernel_rfl) (by kernel_rfl) (by kernel_rfl) (fun _ _ _ h => h) (Or.inl ⟨by rfl, ?yc121⟩) HS ?rc121
        case yc121 =>
         intro w_ hS_
         go_simp
         try with_reducible rfl
        simp only [Act.put, List.getElem_toArray, List.getElem_cons_succ, List.getElem_cons_zero, List.setIfInBounds_toArray, List.set_cons_succ, List.set_cons_zero]
        refine wpAnyH_take (i := 9) (v := .slice ha hl hc) rfl (by kernel_rfl) (by kernel_rfl) (by kernel_rfl) (fun _ _ _ h => h) (Or.inl ⟨by rfl, ?yc122⟩) HS ?rc122
        case yc122 =>
         intro w_ hS_
         have c_ : w_.cell? ⟨pb, 7, none⟩ = some (.slice ha hl hc) := hS_.2.1 7 _ rfl
         go_simp
         try with_reducible rfl
        simp only [Act.put, List.getElem_toArray, List.getElem_cons_succ, List.getElem_cons_zero, List.setIfInBounds_toArray, List.set_cons_succ, List.set_cons_zero]
        refine wpAnyH_take (i := 10) (v := ?vc123) rfl (by kernel_rfl) (by kernel_rfl) (by kernel_rfl) (fun _ _ _ h => h) (Or.inl ⟨by rfl, ?yc123⟩) HS ?rc123
        case yc123 =>
         intro w_ hS_
         go_simp
         try with_reducible rfl
        simp only [Act.put, List.getElem_toArray, List.getElem_cons_succ, List.getElem_cons_zero, List.setIfInBounds_toArray, List.set_cons_succ, List.set_cons_zero]
        refine wpAnyH_take (i := 11) (v := .slice (some ⟨pb, 0, none⟩) 4 pc) rfl (by kernel_rfl) (by kernel_rfl) (by kernel_rfl) (fun _ _ _ h => h) (Or.inl ⟨by rfl, ?yc124⟩) HS ?rc124
        case yc124 =>
         intro w_ hS_
         have c_ := cell_of_row _ _ 2 _ _ _ hS_.1
         go_simp
         try with_reducible rfl
        simp only [Act.put, List.getElem_toArray, List.getElem_cons_succ, List.getElem_cons_zero, List.setIfInBounds_toArray, List.set_cons_succ, List.set_cons_zero]
        refine wpAnyH_take (i := 12) (v := ?vc125) rfl (by kernel_rfl) (by kernel_rfl) (by kernel_rfl) (fun _ _ _ h => h) (Or.inl ⟨by rfl, ?yc125⟩) HS ?rc125
        case yc125 =>
         intro w_ hS_
         go_simp
         try with_reducible rfl
        simp only [Act.put, List.getElem_toArray, List.getElem_cons_succ, List.getElem_cons_zero, List.setIfInBounds_toArray, List.set_cons_succ, List.set_cons_zero]
        refine wpAnyH_take (i := 13) (v := ?vc126) rfl (by kernel_rfl) (by kernel_rfl) (by kernel_rfl) (fun _ _ _ h => h) (Or.inl ⟨by rfl, ?yc126⟩) HS ?rc126
        case yc126 =>
         intro w_ hS_
         go_simp
         try with_reducible rfl
        simp only [Act.put, List.getElem_toArray, List.getElem_cons_succ, List.getElem_cons_zero, List.setIfInBounds_toArray, List.set_cons_succ, List.set_cons_zero]
        refine wpAnyH_take (i := 14) (v := .slice ba bn bc) rfl (by kernel_rfl) (by kernel_rfl) (by kernel_rfl) (fun _ _ _ h => h) (Or.inl ⟨by rfl, ?yc127⟩) HS ?rc127
        case yc127 =>
         intro w_ hS_
         have c_ : w_.cell? ⟨pb, 10, none⟩ = some (.slice ba bn bc) := hS_.2.1 10 _ rfl
         go_simp
         try with_reducible rfl
        simp only [Act.put, List.getElem_toArray, List.getElem_cons_succ, List.getElem_cons_zero, List.setIfInBounds_toArray, List.set_cons_succ, List.set_cons_zero]
        refine wpAnyH_take (i := 15) (v := .agg (evl 2 n16 (.slice ha hl hc) (.slice ba bn bc))) rfl (by kernel_rfl) (by kernel_rfl) (by kernel_rfl) (fun _ _ _ h => h) (Or.inl ⟨by rfl, ?yc128⟩) HS ?rc128
        case yc128 =>
         intro w_ hS_
         simp only [List.getElem_toArray, List.getElem_cons_succ, List.getElem_cons_zero]
         exact run_build_op 51 _ rfl [(0, .int .i64 2), (2, (.slice ha hl hc)), (3, (.slice ba bn bc))] rfl _ (builtE3 2 ha hl hc ba bn bc)
        simp only [Act.put, List.getElem_toArray, List.getElem_cons_succ, List.getElem_cons_zero, List.setIfInBounds_toArray, List.set_cons_succ, List.set_cons_zero]
        refine wpAnyH_one (k := 16) (fuel := 1) (by kernel_rfl) rfl (by kernel_rfl) (fun K_ hK => ?_)
        refine wp_val_op (.pointer (some ⟨w7.heap.size, 0, none⟩)) (w' := w7.alloc (.cells (evl 0 n16 (.slice none 0 0) (.slice none 0 0)) 51)) (by kernel_rfl) ?_
        have RB := hp1_0 w7 (.cells (evl 0 n16 (.slice none 0 0) (.slice none 0 0)) 51)
        have l0_ := lt_of_row R0
        have l3_ := lt_of_row R3
        have lVV := lt_of_row HS.1
        have hb_ : Below w7.heap.size w7 (w7.alloc (.cells (evl 0 n16 (.slice none 0 0) (.slice none 0 0)) 51)) := (Below.refl _ _).alloc (Nat.le_refl _) _
        have oHh := own_high oH
        have oBh := own_high oB
        have HS' : (fun W : World => W.heap[gV]? = some (.cells #[.int .u64 0, .slice none 0 0, .slice (some ⟨pb, 0, none⟩) 4 pc] 78 (0, 0)) ∧ W.rangeAt pb 0 [.int .u64 2, u0, .slice none 0 0, .int .u64 0, .slice (some ⟨g1, 0, none⟩) 16 c1, .slice none 0 0, .int .u64 0, (.slice ha hl hc), .slice none 0 0, .int .u64 0, (.slice ba bn bc), .slice none 0 0] ∧ W.rangeAt g1 0 ((bl nonce).map (Value.int .u8)) ∧ W.cell? ⟨fb, 2, none⟩ = some (.int .u64 2)) _ := ⟨keep hb_ HS.1, rangeS_keep2 HS.2.1 hb_ (by omega), rangeS_keep2 HS.2.2.1 hb_ (by omega), (hb_.cell (p := ⟨fb, 2, none⟩) (show fb < _ by omega)).trans HS.2.2.2⟩
        replace HS := HS'
        clear HS'
        replace R0 := keep hb_ R0
        replace R3 := keep hb_ R3
        replace oH := oH.keep hb_
        replace oB := oB.keep hb_
        replace hw := Below.after hw hb_
        clear hb_
        refine hK _ _ HS ?_
        simp only [Act.put, List.getElem_toArray, List.getElem_cons_succ, List.getElem_cons_zero, List.setIfInBounds_toArray, List.set_cons_succ, List.set_cons_zero]
        clear hK
        generalize w7.alloc (.cells (evl 0 n16 (.slice none 0 0) (.slice none 0 0)) 51) = w8 at *
        have oHg : ∀ k, (Value.slice ha hl hc).ownBlock = some k → k ≠ w7.heap.size := fun k h => by have := oHh k h; omega
        have oBg : ∀ k, (Value.slice ba bn bc).ownBlock = some k → k ≠ w7.heap.size := fun k h => by have := oBh k h; omega
        clear oHh oBh
        have lfb : fb < w7.heap.size := by omega
        have lpb : pb < w7.heap.size := by omega
        have lg1 : g1 < w7.heap.size := by omega
        generalize w7.heap.size = gB at *
        refine wpAnyH_one (k := 17) (fuel := 0) (by kernel_rfl) rfl (by kernel_rfl) (fun K_ hK => ?_)
        refine wp_store_row 51 _ _ rfl gB (evl 2 n16 (.slice ha hl hc) (.slice ba bn bc)) rfl rfl 51 _ RB (evl_info _ _ n16_len _ _) (by rw [evl_size _ _ n16_len, evl_size _ _ n16_len]) (evl_one _ _ _ _ _ _ _ _) ?_
        have HS' : (fun W : World => W.heap[gV]? = some (.cells #[.int .u64 0, .slice none 0 0, .slice (some ⟨pb, 0, none⟩) 4 pc] 78 (0, 0)) ∧ W.rangeAt pb 0 [.int .u64 2, u0, .slice none 0 0, .int .u64 0, .slice (some ⟨g1, 0, none⟩) 16 c1, .slice none 0 0, .int .u64 0, (.slice ha hl hc), .slice none 0 0, .int .u64 0, (.slice ba bn bc), .slice none 0 0] ∧ W.rangeAt g1 0 ((bl nonce).map (Value.int .u8)) ∧ W.cell? ⟨fb, 2, none⟩ = some (.int .u64 2)) (w8.setRow gB (evl 2 n16 (.slice ha hl hc) (.slice ba bn bc))) := ⟨(setRow_other w8 gB gV (evl 2 n16 (.slice ha hl hc) (.slice ba bn bc)) (by omega)).trans HS.1, mv_range HS.2.1 (setRow_other w8 gB pb (evl 2 n16 (.slice ha hl hc) (.slice ba bn bc)) (by omega)), mv_range HS.2.2.1 (setRow_other w8 gB g1 (evl 2 n16 (.slice ha hl hc) (.slice ba bn bc)) (by omega)), (World.cell?_of_block (w := w8) (a := ⟨fb, 2, none⟩) (setRow_other w8 gB fb (evl 2 n16 (.slice ha hl hc) (.slice ba bn bc)) (by omega))).trans HS.2.2.2⟩
        replace R0 := (setRow_other w8 gB (w.heap.size) (evl 2 n16 (.slice ha hl hc) (.slice ba bn bc)) (by omega)).trans R0
        replace R3 := (setRow_other w8 gB (w.heap.size + 1) (evl 2 n16 (.slice ha hl hc) (.slice ba bn bc)) (by omega)).trans R3
        replace oH := own_othR oH oHg (evl 2 n16 (.slice ha hl hc) (.slice ba bn bc))
        replace oB := own_othR oB oBg (evl 2 n16 (.slice ha hl hc) (.slice ba bn bc))
        replace RB := setRow_heap w8 gB _ (evl 2 n16 (.slice ha hl hc) (.slice ba bn bc)) _ _ RB
        replace hw := below_setRow hw (show w.heap.size ≤ gB by omega) (evl 2 n16 (.slice ha hl hc) (.slice ba bn bc))
        refine hK _ _ HS' ?_
        simp only [Act.put]
        clear hK HS
        generalize w8.setRow gB (evl 2 n16 (.slice ha hl hc) (.slice ba bn bc)) = w9 at *
        refine wpAnyH_done (by kernel_rfl) ?_ _
        go_upto_region 14 with (fail)
        have hbd : Below w9.heap.size w9 w9.drew := below_drN (Below.refl _ _) 1
        have HS : (fun W : World => W.heap[gV]? = some (.cells #[.int .u64 0, .slice none 0 0, .slice (some ⟨pb, 0, none⟩) 4 pc] 78 (0, 0)) ∧ W.rangeAt pb 0 [.int .u64 2, u0, .slice none 0 0, .int .u64 0, .slice (some ⟨g1, 0, none⟩) 16 c1, .slice none 0 0, .int .u64 0, (.slice ha hl hc), .slice none 0 0, .int .u64 0, (.slice ba bn bc), .slice none 0 0] ∧ W.rangeAt g1 0 ((bl nonce).map (Value.int .u8)) ∧ W.cell? ⟨fb, 2, none⟩ = some (.int .u64 2)) w9.drew := HS'
        replace R0 := keep hbd R0
        replace R3 := keep hbd R3
        replace RB := keep hbd RB
        replace oH := oH.keep hbd
        replace oB := oB.keep hbd
        replace hw := Below.after hw hbd
        have sk := slice_n16 gB 1
        clear hbd HS'
        refine wp_region_held (S := fun W : World => W.heap[gV]? = some (.cells #[.int .u64 0, .slice none 0 0, .slice (some ⟨pb, 0, none⟩) 4 pc] 78 (0, 0)) ∧ W.rangeAt pb 0 [.int .u64 2, u0, .slice none 0 0, .int .u64 0, .slice (some ⟨g1, 0, none⟩) 16 c1, .slice none 0 0, .int .u64 0, (.slice ha hl hc), .slice none 0 0, .int .u64 0, (.slice ba bn bc), .slice none 0 0] ∧ W.rangeAt g1 0 ((bl nonce).map (Value.int .u8)) ∧ W.cell? ⟨fb, 2, none⟩ = some (.int .u64 2)) (by kernel_rfl) ?_
        change wpAnyH _ _ _ _ _ _ _ _ (World.drew _)
        generalize w9.drew = w10 at *
        refine wpAnyH_take (i := 0) (v := ?vc129) rfl (by kernel_rfl) (by kernel_rfl) (by kernel_rfl) (fun _ _ _ h => h) (Or.inl ⟨by rfl, ?yc129⟩) HS ?rc129
        case yc129 =>
         intro w_ hS_
         go_simp
         try with_reducible rfl
        simp only [Act.put, List.getElem_toArray, List.getElem_cons_zero, List.setIfInBounds_toArray]
        refine wpAnyH_take (i := 1) (v := .slice (some ⟨gB, 1, none⟩) 16 16) rfl (by kernel_rfl) (by kernel_rfl) (by kernel_rfl) (fun _ _ _ h => h) (Or.inl ⟨by rfl, ?yc130⟩) HS ?rc130
        case yc130 =>
         intro w_ hS_
         go_simp
         try with_reducible rfl
        simp only [Act.put, List.getElem_toArray, List.getElem_cons_succ, List.getElem_cons_zero, List.setIfInBounds_toArray, List.set_cons_succ, List.set_cons_zero]
        refine wpAnyH_take (i := 2) (v := ?vc131) rfl (by kernel_rfl) (by kernel_rfl) (by kernel_rfl) (fun _ _ _ h => h) (Or.inl ⟨by rfl, ?yc131⟩) HS ?rc131
        case yc131 =>
         intro w_ hS_
         go_simp
         try with_reducible rfl
        simp only [Act.put, List.getElem_toArray, List.getElem_cons_succ, List.getElem_cons_zero, List.setIfInBounds_toArray, List.set_cons_succ, List.set_cons_zero]
        refine wpAnyH_take (i := 3) (v := .slice (some ⟨pb, 0, none⟩) 4 pc) rfl (by kernel_rfl) (by kernel_rfl) (by kernel_rfl) (fun _ _ _ h => h) (Or.inl ⟨by rfl, ?yc132⟩) HS ?rc132
        case yc132 =>
         intro w_ hS_
         have c_ := cell_of_row _ _ 2 _ _ _ hS_.1
         go_simp
         try with_reducible rfl
        simp only [Act.put, List.getElem_toArray, List.getElem_cons_succ, List.getElem_cons_zero, List.setIfInBounds_toArray, List.set_cons_succ, List.set_cons_zero]
        refine wpAnyH_take (i := 4) (v := ?vc133) rfl (by kernel_rfl) (by kernel_rfl) (by kernel_rfl) (fun _ _ _ h => h) (Or.inl ⟨by rfl, ?yc133⟩) HS ?rc133
        case yc133 =>
         intro w_ hS_
         go_simp
         try with_reducible rfl
        simp only [Act.put, List.getElem_toArray, List.getElem_cons_succ, List.getElem_cons_zero, List.setIfInBounds_toArray, List.set_cons_succ, List.set_cons_zero]
        refine wpAnyH_take (i := 5) (v := ?vc134) rfl (by kernel_rfl) (by kernel_rfl) (by kernel_rfl) (fun _ _ _ h => h) (Or.inl ⟨by rfl, ?yc134⟩) HS ?rc134
        case yc134 =>
         intro w_ hS_
         go_simp
         try with_reducible rfl
        simp only [Act.put, List.getElem_toArray, List.getElem_cons_succ, List.getElem_cons_zero, List.setIfInBounds_toArray, List.set_cons_succ, List.set_cons_zero]
        refine wpAnyH_take (i := 6) (v := .slice (some ⟨g1, 0, none⟩) 16 c1) rfl (by kernel_rfl) (by kernel_rfl) (by kernel_rfl) (fun _ _ _ h => h) (Or.inl ⟨by rfl, ?yc135⟩) HS ?rc135
        case yc135 =>
         intro w_ hS_
         have c_ : w_.cell? ⟨pb, 4, none⟩ = some (.slice (some ⟨g1, 0, none⟩) 16 c1) := hS_.2.1 4 _ rfl
         go_simp
         try with_reducible rfl
        simp only [Act.put, List.getElem_toArray, List.getElem_cons_succ, List.getElem_cons_zero, List.setIfInBounds_toArray, List.set_cons_succ, List.set_cons_zero]
        refine wpAnyH_one (k := 7) (fuel := 0) (by kernel_rfl) rfl (by kernel_rfl) (fun K_ hK => ?_)
        refine wp_copyR _ _ 22 22 rfl 5 Tryz.underlying22 (by kernel_rfl) gB 1 16 16 ⟨g1, 0, none⟩ 16 c1 rfl rfl (evl 2 n16 (.slice ha hl hc) (.slice ba bn bc)) 51 RB ((bl nonce).map (Value.int .u8)) (by rw [List.length_map, bl_len, hn]; rfl) (fun j v hv => by rw [addr_add]; exact HS.2.2.1 j v hv) (by rw [List.length_map, bl_len, hn, evl_size _ _ n16_len]; decide) (fun v hv => by obtain ⟨x, _, rfl⟩ := List.mem_map.1 hv; rfl) ?_
        rw [evl_copy 2 nonce hn]
        have HS' : (fun W : World => W.heap[gV]? = some (.cells #[.int .u64 0, .slice none 0 0, .slice (some ⟨pb, 0, none⟩) 4 pc] 78 (0, 0)) ∧ W.rangeAt pb 0 [.int .u64 2, u0, .slice none 0 0, .int .u64 0, .slice (some ⟨g1, 0, none⟩) 16 c1, .slice none 0 0, .int .u64 0, (.slice ha hl hc), .slice none 0 0, .int .u64 0, (.slice ba bn bc), .slice none 0 0] ∧ W.rangeAt g1 0 ((bl nonce).map (Value.int .u8)) ∧ W.cell? ⟨fb, 2, none⟩ = some (.int .u64 2)) (w10.setRow gB (evl 2 nonce (.slice ha hl hc) (.slice ba bn bc))) := ⟨(setRow_other w10 gB gV (evl 2 nonce (.slice ha hl hc) (.slice ba bn bc)) (by omega)).trans HS.1, mv_range HS.2.1 (setRow_other w10 gB pb (evl 2 nonce (.slice ha hl hc) (.slice ba bn bc)) (by omega)), mv_range HS.2.2.1 (setRow_other w10 gB g1 (evl 2 nonce (.slice ha hl hc) (.slice ba bn bc)) (by omega)), (World.cell?_of_block (w := w10) (a := ⟨fb, 2, none⟩) (setRow_other w10 gB fb (evl 2 nonce (.slice ha hl hc) (.slice ba bn bc)) (by omega))).trans HS.2.2.2⟩
        replace R0 := (setRow_other w10 gB (w.heap.size) (evl 2 nonce (.slice ha hl hc) (.slice ba bn bc)) (by omega)).trans R0
        replace R3 := (setRow_other w10 gB (w.heap.size + 1) (evl 2 nonce (.slice ha hl hc) (.slice ba bn bc)) (by omega)).trans R3
        replace oH := own_othR oH oHg (evl 2 nonce (.slice ha hl hc) (.slice ba bn bc))
        replace oB := own_othR oB oBg (evl 2 nonce (.slice ha hl hc) (.slice ba bn bc))
        replace RB := setRow_heap w10 gB _ (evl 2 nonce (.slice ha hl hc) (.slice ba bn bc)) _ _ RB
        replace hw := below_setRow hw (show w.heap.size ≤ gB by omega) (evl 2 nonce (.slice ha hl hc) (.slice ba bn bc))
        refine hK _ _ HS' ?_
        simp only [Act.put, List.getElem_toArray, List.getElem_cons_succ, List.getElem_cons_zero, List.setIfInBounds_toArray, List.set_cons_succ, List.set_cons_zero]
        clear hK HS HS'
        generalize w10.setRow gB (evl 2 nonce (.slice ha hl hc) (.slice ba bn bc)) = w11 at *
        refine wpAnyH_done (by kernel_rfl) ?_ _
        have c0 : w11.cell? ⟨gB, 0, none⟩ = some (.int .i64 2) := by rw [cell_of_row _ _ _ _ _ _ RB]; exact evl_0 _ _ _ _
        have c18 : w11.cell? ⟨gB, 18, none⟩ = some (.slice ba bn bc) := by rw [cell_of_row _ _ _ _ _ _ RB]; exact evl_b _ _ hn _ _
        clear sk oHg oBg
        go_wp2_with (fail)
        refine (cHo.out w11).mono ?_
        rintro e_ y1 ⟨rfl, hb_⟩
        have l0_ := lt_of_row R0
        have l3_ := lt_of_row R3
        have lB_ := lt_of_row RB
        replace R0 := keep hb_ R0
        replace R3 := keep hb_ R3
        replace RB := keep hb_ RB
        replace oH := oH.keep hb_
        replace oB := oB.keep hb_
        replace hw := Below.after hw hb_
        clear hb_ cHo c0 c18
        by_cases hkk : 80 ≤ bn ∧ bn ≤ mo 2 ∧ bkd (dg 2) (bn - 16) = bn - 16
        ·rw [decide_eq_true hkk]
         rw [if_pos hkk.2.2] at hpf
         replace hkk := hide hkk
         have oneF : (#[Value.int .i64 0, .int .i64 0, .int .i64 0] : Array Value).all (·.oneCell') = true := by simp [Value.oneCell']
         have R3b := (setRow_other y1 (w.heap.size) (w.heap.size + 1) (evl 2 nonce (.slice ha hl hc) (.slice ba bn bc)) (by omega)).trans R3
         go_wp2_with (first | (refine wpList_load_want rfl 51 _ rfl gB rfl 51 (evl 2 nonce (.slice ha hl hc) (.slice ba bn bc)) (0, 0) _ RB Tryz.underlying51 rfl (evl_info _ _ hn _ _) ?_) | (refine wpList_build_want rfl 35 _ rfl [] rfl #[.int .i64 0, .int .i64 0, .int .i64 0] builtZeR ?_) | (refine wpList_store_row rfl 51 _ _ rfl (w.heap.size) (evl 2 nonce (.slice ha hl hc) (.slice ba bn bc)) rfl rfl 51 _ R0 (evl_info _ _ hn _ _) (by rw [evl_size _ _ n16_len, evl_size _ _ hn]) (evl_one _ _ _ _ _ _ _ _) ?_) | (refine wpList_store_row rfl 35 _ _ rfl (w.heap.size + 1) #[.int .i64 0, .int .i64 0, .int .i64 0] rfl rfl 35 _ R3b infoFt rfl oneF ?_) | fail)
         clear R3b RB
         replace R3 := (setRow_other y1 (w.heap.size) (w.heap.size + 1) (evl 2 nonce (.slice ha hl hc) (.slice ba bn bc)) (by omega)).trans R3
         replace oH := own_setRow (g := w.heap.size) oH (by omega) (evl 2 nonce (.slice ha hl hc) (.slice ba bn bc))
         replace oB := own_setRow (g := w.heap.size) oB (by omega) (evl 2 nonce (.slice ha hl hc) (.slice ba bn bc))
         replace R0 := setRow_heap y1 (w.heap.size) _ ((evl 2 nonce (.slice ha hl hc) (.slice ba bn bc))) _ _ R0
         replace hw := below_setRow hw (show w.heap.size ≤ w.heap.size by omega) (evl 2 nonce (.slice ha hl hc) (.slice ba bn bc))
         generalize y1.setRow (w.heap.size) (evl 2 nonce (.slice ha hl hc) (.slice ba bn bc)) = x3 at *
         replace R0 := (setRow_other x3 (w.heap.size + 1) (w.heap.size) #[.int .i64 0, .int .i64 0, .int .i64 0] (by omega)).trans R0
         replace oH := own_setRow (g := w.heap.size + 1) oH (by omega) #[.int .i64 0, .int .i64 0, .int .i64 0]
         replace oB := own_setRow (g := w.heap.size + 1) oB (by omega) #[.int .i64 0, .int .i64 0, .int .i64 0]
         replace R3 := setRow_heap x3 (w.heap.size + 1) _ (#[.int .i64 0, .int .i64 0, .int .i64 0]) _ _ R3
         replace hw := below_setRow hw (show w.heap.size ≤ w.heap.size + 1 by omega) #[.int .i64 0, .int .i64 0, .int .i64 0]
         exact bodyPost_ret (v := .tuple #[.agg (evl 2 nonce (.slice ha hl hc) (.slice ba bn bc)), .agg #[.int .i64 0, .int .i64 0, .int .i64 0]]) (results_cell_cell Tryz.results23 _ _ (w.heap.size) (w.heap.size + 1) _ _ _ _ _ _ _ _ rfl R0 Tryz.underlying51 rfl (evl_info _ _ hn _ _) rfl R3 Tryz.underlying35 rfl infoFt) rfl ⟨by
          unfold RrE
          rw [hpf.out, hV1.out, hfs.out]
          show ∃ ha hc ba bc, _ = Ending.returned (.tuple #[.agg (evl 2 nonce (.slice ha hd.length hc) (.slice ba bd.length bc)), .agg #[.int .i64 0, .int .i64 0, .int .i64 0]]) ∧ Own _ _ (.slice ha hd.length hc) hd ∧ Own _ _ (.slice ba bd.length bc) bd
          rw [hl60.out, hbn.out]
          exact ⟨ha, hc, ba, bc, rfl, own_down oH hlow, own_down oB hlow⟩, hw⟩
        ·rw [decide_eq_false hkk]
         rw [if_neg (fun h => hkk ⟨h80.out, hmo.out, h⟩)] at hpf
         replace hkk := hide hkk
         clear oH oB RB
         have oneF : (#[Value.int .i64 0, .int .i64 82, .int .i64 102] : Array Value).all (·.oneCell') = true := by simp [Value.oneCell']
         have R3b := (setRow_other y1 (w.heap.size) (w.heap.size + 1) (evl 0 n16 (.slice none 0 0) (.slice none 0 0)) (by omega)).trans R3
         go_wp2_with (first | (refine wpList_build_want rfl 51 _ rfl [] rfl (evl 0 n16 (.slice none 0 0) (.slice none 0 0)) builtE0 ?_) | (refine wpList_build_want rfl 35 _ rfl [(1, .int .i64 82), (2, .int .i64 102)] rfl #[.int .i64 0, .int .i64 82, .int .i64 102] (builtF2 82 102) ?_) | (refine wpList_store_row rfl 51 _ _ rfl (w.heap.size) (evl 0 n16 (.slice none 0 0) (.slice none 0 0)) rfl rfl 51 _ R0 (evl_info _ _ n16_len _ _) rfl (evl_one _ _ _ _ _ _ _ _) ?_) | (refine wpList_store_row rfl 35 _ _ rfl (w.heap.size + 1) #[.int .i64 0, .int .i64 82, .int .i64 102] rfl rfl 35 _ R3b infoFt rfl oneF ?_) | fail)
         clear R3b
         replace R3 := (setRow_other y1 (w.heap.size) (w.heap.size + 1) (evl 0 n16 (.slice none 0 0) (.slice none 0 0)) (by omega)).trans R3
         replace R0 := setRow_heap y1 (w.heap.size) _ ((evl 0 n16 (.slice none 0 0) (.slice none 0 0))) _ _ R0
         replace hw := below_setRow hw (show w.heap.size ≤ w.heap.size by omega) (evl 0 n16 (.slice none 0 0) (.slice none 0 0))
         generalize y1.setRow (w.heap.size) (evl 0 n16 (.slice none 0 0) (.slice none 0 0)) = x3 at *
         replace R0 := (setRow_other x3 (w.heap.size + 1) (w.heap.size) #[.int .i64 0, .int .i64 82, .int .i64 102] (by omega)).trans R0
         replace R3 := setRow_heap x3 (w.heap.size + 1) _ (#[.int .i64 0, .int .i64 82, .int .i64 102]) _ _ R3
         replace hw := below_setRow hw (show w.heap.size ≤ w.heap.size + 1 by omega) #[.int .i64 0, .int .i64 82, .int .i64 102]
         exact bodyPost_ret (v := .tuple #[.agg (evl 0 n16 (.slice none 0 0) (.slice none 0 0)), .agg #[.int .i64 0, .int .i64 82, .int .i64 102]]) (results_cell_cell Tryz.results23 _ _ (w.heap.size) (w.heap.size + 1) _ _ _ _ _ _ _ _ rfl R0 Tryz.underlying51 rfl (evl_info _ _ n16_len _ _) rfl R3 Tryz.underlying35 rfl infoFt) rfl ⟨by unfold RrE; rw [hpf.out]; rfl, hw⟩
    ·have hr3 : Hid (riE d = 82) := hide (by unfold riE; rw [hE, if_neg (by simp), if_neg (by rw [hN.out, hno]; simp; omega), if_pos (by rw [hty]; exact h3)])
     have h3' : (ty != 0) = true := by simpa using h3
     clear hno hty hv hE hP h3 hV hB
     have oneF : (#[Value.int .i64 0, .int .i64 0, .int .i64 82] : Array Value).all (·.oneCell') = true := by simp [Value.oneCell']
     have R3b := (setRow_other w2 (w.heap.size) (w.heap.size + 1) (evl 0 n16 (.slice none 0 0) (.slice none 0 0)) (by omega)).trans R3
     go_wp2_with (first | (refine wpList_build_want rfl 51 _ rfl [] rfl (evl 0 n16 (.slice none 0 0) (.slice none 0 0)) builtE0 ?_) | (refine wpList_build_want rfl 35 _ rfl [(2, .int .i64 82)] rfl #[.int .i64 0, .int .i64 0, .int .i64 82] (builtF1 82) ?_) | (refine wpList_store_row rfl 51 _ _ rfl (w.heap.size) (evl 0 n16 (.slice none 0 0) (.slice none 0 0)) rfl rfl 51 _ R0 (evl_info _ _ n16_len _ _) rfl (evl_one _ _ _ _ _ _ _ _) ?_) | (refine wpList_store_row rfl 35 _ _ rfl (w.heap.size + 1) #[.int .i64 0, .int .i64 0, .int .i64 82] rfl rfl 35 _ R3b infoFt rfl oneF ?_) | fail)
     clear R3b
     replace R3 := (setRow_other w2 (w.heap.size) (w.heap.size + 1) (evl 0 n16 (.slice none 0 0) (.slice none 0 0)) (by omega)).trans R3
     replace R0 := setRow_heap w2 (w.heap.size) _ ((evl 0 n16 (.slice none 0 0) (.slice none 0 0))) _ _ R0
     replace hw := below_setRow hw (show w.heap.size ≤ w.heap.size by omega) (evl 0 n16 (.slice none 0 0) (.slice none 0 0))
     generalize w2.setRow (w.heap.size) (evl 0 n16 (.slice none 0 0) (.slice none 0 0)) = x3 at *
     replace R0 := (setRow_other x3 (w.heap.size + 1) (w.heap.size) #[.int .i64 0, .int .i64 0, .int .i64 82] (by omega)).trans R0
     replace R3 := setRow_heap x3 (w.heap.size + 1) _ (#[.int .i64 0, .int .i64 0, .int .i64 82]) _ _ R3
     replace hw := below_setRow hw (show w.heap.size ≤ w.heap.size + 1 by omega) #[.int .i64 0, .int .i64 0, .int .i64 82]
     exact bodyPost_ret (v := .tuple #[.agg (evl 0 n16 (.slice none 0 0) (.slice none 0 0)), .agg #[.int .i64 0, .int .i64 0, .int .i64 82]]) (results_cell_cell Tryz.results23 _ _ (w.heap.size) (w.heap.size + 1) _ _ _ _ _ _ _ _ rfl R0 Tryz.underlying51 rfl (evl_info _ _ n16_len _ _) rfl R3 Tryz.underlying35 rfl infoFt) rfl ⟨by unfold RrE; rw [paF_ri hr3.out (by decide) hr2.out]; rfl, hw⟩
   ·have hr3 : Hid (riE d = 81) := hide (by unfold riE; rw [hE, if_neg (by simp), if_pos (.inr (by rw [hno]; exact h2))])
    have h2' : (no != 1) = true := by simpa using h2
    clear hno hty hv hE hP h2 hV hB
    have oneF : (#[Value.int .i64 0, .int .i64 0, .int .i64 81] : Array Value).all (·.oneCell') = true := by simp [Value.oneCell']
    have R3b := (setRow_other w2 (w.heap.size) (w.heap.size + 1) (evl 0 n16 (.slice none 0 0) (.slice none 0 0)) (by omega)).trans R3
    go_wp2_with (first | (refine wpList_build_want rfl 51 _ rfl [] rfl (evl 0 n16 (.slice none 0 0) (.slice none 0 0)) builtE0 ?_) | (refine wpList_build_want rfl 35 _ rfl [(2, .int .i64 81)] rfl #[.int .i64 0, .int .i64 0, .int .i64 81] (builtF1 81) ?_) | (refine wpList_store_row rfl 51 _ _ rfl (w.heap.size) (evl 0 n16 (.slice none 0 0) (.slice none 0 0)) rfl rfl 51 _ R0 (evl_info _ _ n16_len _ _) rfl (evl_one _ _ _ _ _ _ _ _) ?_) | (refine wpList_store_row rfl 35 _ _ rfl (w.heap.size + 1) #[.int .i64 0, .int .i64 0, .int .i64 81] rfl rfl 35 _ R3b infoFt rfl oneF ?_) | fail)
    clear R3b
    replace R3 := (setRow_other w2 (w.heap.size) (w.heap.size + 1) (evl 0 n16 (.slice none 0 0) (.slice none 0 0)) (by omega)).trans R3
    replace R0 := setRow_heap w2 (w.heap.size) _ ((evl 0 n16 (.slice none 0 0) (.slice none 0 0))) _ _ R0
    replace hw := below_setRow hw (show w.heap.size ≤ w.heap.size by omega) (evl 0 n16 (.slice none 0 0) (.slice none 0 0))
    generalize w2.setRow (w.heap.size) (evl 0 n16 (.slice none 0 0) (.slice none 0 0)) = x3 at *
    replace R0 := (setRow_other x3 (w.heap.size + 1) (w.heap.size) #[.int .i64 0, .int .i64 0, .int .i64 81] (by omega)).trans R0
    replace R3 := setRow_heap x3 (w.heap.size + 1) _ (#[.int .i64 0, .int .i64 0, .int .i64 81]) _ _ R3
    replace hw := below_setRow hw (show w.heap.size ≤ w.heap.size + 1 by omega) #[.int .i64 0, .int .i64 0, .int .i64 81]
    exact bodyPost_ret (v := .tuple #[.agg (evl 0 n16 (.slice none 0 0) (.slice none 0 0)), .agg #[.int .i64 0, .int .i64 0, .int .i64 81]]) (results_cell_cell Tryz.results23 _ _ (w.heap.size) (w.heap.size + 1) _ _ _ _ _ _ _ _ rfl R0 Tryz.underlying51 rfl (evl_info _ _ n16_len _ _) rfl R3 Tryz.underlying35 rfl infoFt) rfl ⟨by unfold RrE; rw [paF_ri hr3.out (by decide) hr2.out]; rfl, hw⟩
 ·have hr2 : Hid (riA d = P) := hide (by unfold riA; rw [hE, if_pos h0, hP])
  have hr3 : Hid (riE d = E) := hide (by unfold riE; rw [hE, if_pos h0])
  have h0' : (E != 0) = true := by simpa using h0
  have hpf := hide (paF_ri hr3.out h0 hr2.out)
  clear h0 hF hE hP hB
  have oneF : (#[Value.int .i64 0, .int .i64 P, .int .i64 E] : Array Value).all (·.oneCell') = true := by simp [Value.oneCell']
  have R3b := (setRow_other w2 (w.heap.size) (w.heap.size + 1) (evl 0 n16 (.slice none 0 0) (.slice none 0 0)) (by omega)).trans R3
  go_wp2_with (first | (refine wpList_build_want rfl 51 _ rfl [] rfl (evl 0 n16 (.slice none 0 0) (.slice none 0 0)) builtE0 ?_) | (refine wpList_build_want rfl 35 _ rfl [(1, .int .i64 P), (2, .int .i64 E)] rfl #[.int .i64 0, .int .i64 P, .int .i64 E] (builtF2 P E) ?_) | (refine wpList_store_row rfl 51 _ _ rfl (w.heap.size) (evl 0 n16 (.slice none 0 0) (.slice none 0 0)) rfl rfl 51 _ R0 (evl_info _ _ n16_len _ _) rfl (evl_one _ _ _ _ _ _ _ _) ?_) | (refine wpList_store_row rfl 35 _ _ rfl (w.heap.size + 1) #[.int .i64 0, .int .i64 P, .int .i64 E] rfl rfl 35 _ R3b infoFt rfl oneF ?_) | fail)
  clear R3b
  replace R3 := (setRow_other w2 (w.heap.size) (w.heap.size + 1) (evl 0 n16 (.slice none 0 0) (.slice none 0 0)) (by omega)).trans R3
  replace R0 := setRow_heap w2 (w.heap.size) _ ((evl 0 n16 (.slice none 0 0) (.slice none 0 0))) _ _ R0
  replace hw := below_setRow hw (show w.heap.size ≤ w.heap.size by omega) (evl 0 n16 (.slice none 0 0) (.slice none 0 0))
  generalize w2.setRow (w.heap.size) (evl 0 n16 (.slice none 0 0) (.slice none 0 0)) = x3 at *
  replace R0 := (setRow_other x3 (w.heap.size + 1) (w.heap.size) #[.int .i64 0, .int .i64 P, .int .i64 E] (by omega)).trans R0
  replace R3 := setRow_heap x3 (w.heap.size + 1) _ (#[.int .i64 0, .int .i64 P, .int .i64 E]) _ _ R3
  replace hw := below_setRow hw (show w.heap.size ≤ w.heap.size + 1 by omega) #[.int .i64 0, .int .i64 P, .int .i64 E]
  exact bodyPost_ret (v := .tuple #[.agg (evl 0 n16 (.slice none 0 0) (.slice none 0 0)), .agg #[.int .i64 0, .int .i64 P, .int .i64 E]]) (results_cell_cell Tryz.results23 _ _ (w.heap.size) (w.heap.size + 1) _ _ _ _ _ _ _ _ rfl R0 Tryz.underlying51 rfl (evl_info _ _ n16_len _ _) rfl R3 Tryz.underlying35 rfl infoFt) rfl ⟨by unfold RrE; rw [hpf.out]; rfl, hw⟩
end Go.Proofs.YtjoohgkgkabbpaaGreatDoor

