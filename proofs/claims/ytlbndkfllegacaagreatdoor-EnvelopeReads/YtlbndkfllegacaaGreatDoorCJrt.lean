import Derived.Test.YtlbndkfllegacaaGreatDoorCJrs
import Derived.OwnWalk
import Derived.Deep.Cut
import Derived.Deep.RegionHeld3
import Derived.Test.YtlbndkfllegacaaGreatDoorCQb4
namespace Go.Proofs.YtlbndkfllegacaaGreatDoor
set_option maxRecDepth 100000
open Go Go.RowKit Go.Sort
attribute [local go_sem] setCell_drewN alloc_drewN
set_option maxRecDepth 100000 in
set_option maxHeartbeats 8000000 in
theorem r_DecodeF {g : Nat} {ts : List Slt} (hfl : ∀ i, i < ts.length → Fla (gs ts i)) (d : List B) (bv : Value) (w : World) (hC : Rdc w g ts) (hB : BysB w bv d) (hcap : ∀ a l c, bv = .slice a l c → l ≤ c) :
   Calls Tryz.prog 32 #[.pointer (some ⟨g, 0, none⟩), bv] w fun e w' => DcE w.heap.size ts d 0 e w' ∧ Below w.heap.size w w' := by
 obtain ⟨u, hg, hS⟩ := hC
 obtain ⟨so, sc, rfl⟩ := hS.form
 generalize hsn : ts.length = sn at *
 replace hsn := hide hsn
 have R6 := hp2_0 w (.cells #[.int .u64 0, .slice none 0 0, .slice none 0 0] 76) (.cells #[.int .i64 0, .int .i64 0, .int .i64 0] 35)
 have R7 := hp2_1 w (.cells #[.int .u64 0, .slice none 0 0, .slice none 0 0] 76) (.cells #[.int .i64 0, .int .i64 0, .int .i64 0] 35)
 have hw : Below w.heap.size w ((w.alloc (.cells #[.int .u64 0, .slice none 0 0, .slice none 0 0] 76)).alloc (.cells #[.int .i64 0, .int .i64 0, .int .i64 0] 35)) := ((Below.refl _ _).alloc (Nat.le_refl _) _).alloc (by simp) _
 have lg := lt_of_row hg
 have l70 := lt_of_row R7
 have cg := hide (cell_of_row _ _ 0 _ _ _ (keep hw hg))
 have cD := hide (r_decodeF (by rw [hsn.out]; exact hfl) d bv 0 ⟨by decide, by decide⟩ ((w.alloc (.cells #[.int .u64 0, .slice none 0 0, .slice none 0 0] 76)).alloc (.cells #[.int .i64 0, .int .i64 0, .int .i64 0] 35)) (hS.keep hw) (hB.keep hw) hcap)
 obtain ⟨ba, bc, rfl⟩ := hB.form
 generalize hdl : d.length = dl at *
 replace hdl := hide hdl
 clear hS hB hcap hg
 go_enter Tryz.func32, Tryz.ntmps32
 go_upto_region 1 with (fail)
 generalize ((w.alloc (.cells #[.int .u64 0, .slice none 0 0, .slice none 0 0] 76)).alloc (.cells #[.int .i64 0, .int .i64 0, .int .i64 0] 35)) = w0 at *
 have cg0 := cg.out
 go_wp2_with (fail)
 refine cD.out.mono ?_
 rintro e_ w1 ⟨hD, hb⟩
 replace R6 := keep hb R6
 replace R7 := keep hb R7
 have szb := hb.size
 replace hw := Below.after hw hb
 clear hb cD cg cg0
 obtain ⟨R, hR⟩ : ∃ R, dec8 ts d 0 = R := ⟨_, rfl⟩
 unfold DcE at hD
 rw [hR] at hD
 cases R with
 | some x =>
   simp only at hD
   subst hD
   unfold frw at *
   replace hR := hide hR
   have oneA : (#[Value.int .u64 0, .slice none 0 0, .slice none 0 0] : Array Value).all (·.oneCell') = true := by simp [Value.oneCell']
   have oneB : (#[Value.int .i64 x.line, .int .i64 x.at_, .int .i64 x.why] : Array Value).all (·.oneCell') = true := by simp [Value.oneCell']
   have R7b := (setRow_other w1 (w.heap.size) (w.heap.size + 1) #[.int .u64 0, .slice none 0 0, .slice none 0 0] (by omega)).trans R7
   go_wp2_with (first | (refine wpList_store_row rfl 76 _ _ rfl (w.heap.size) #[.int .u64 0, .slice none 0 0, .slice none 0 0] rfl rfl 76 _ R6 infoV rfl oneA ?_) | (refine wpList_store_row rfl 35 _ _ rfl (w.heap.size + 1) #[.int .i64 x.line, .int .i64 x.at_, .int .i64 x.why] rfl rfl 35 _ R7b infoFt rfl oneB ?_) | fail)
   clear R7b
   replace R7 := (setRow_other w1 (w.heap.size) (w.heap.size + 1) #[.int .u64 0, .slice none 0 0, .slice none 0 0] (by omega)).trans R7
   replace R6 := setRow_heap w1 (w.heap.size) _ (#[.int .u64 0, .slice none 0 0, .slice none 0 0]) _ _ R6
   replace hw := below_setRow hw (show w.heap.size ≤ w.heap.size by omega) #[.int .u64 0, .slice none 0 0, .slice none 0 0]
   generalize hx3 : w1.setRow (w.heap.size) #[.int .u64 0, .slice none 0 0, .slice none 0 0] = x3 at *
   replace hx3 := hide hx3
   replace R6 := (setRow_other x3 (w.heap.size + 1) (w.heap.size) #[.int .i64 x.line, .int .i64 x.at_, .int .i64 x.why] (by omega)).trans R6
   replace R7 := setRow_heap x3 (w.heap.size + 1) _ (#[.int .i64 x.line, .int .i64 x.at_, .int .i64 x.why]) _ _ R7
   replace hw := below_setRow hw (show w.heap.size ≤ w.heap.size + 1 by omega) #[.int .i64 x.line, .int .i64 x.at_, .int .i64 x.why]
   exact bodyPost_ret (v := .tuple #[.agg #[.int .u64 0, .slice none 0 0, .slice none 0 0], .agg #[.int .i64 x.line, .int .i64 x.at_, .int .i64 x.why]]) (results_cell_cell Tryz.results32 _ _ (w.heap.size) (w.heap.size + 1) _ _ _ _ _ _ _ _ rfl R6 Tryz.underlying76 rfl infoV rfl R7 Tryz.underlying35 rfl infoFt) rfl ⟨by unfold DcE; rw [hR.out]; rfl, hw⟩
 | none =>
   obtain ⟨pv, fv, us, rfl, hO, hF⟩ := hD
   obtain ⟨po, pc, rfl⟩ := own_slice hO
   replace hR := hide hR
   have hmv : ∀ q o, w.heap.size + 1 < q → w1.heap[q]? = some o → ((w1.setRow (w.heap.size) #[.int .u64 0, .slice none 0 0, .slice po (dfs (dwh d)).length pc]).setRow (w.heap.size + 1) #[.int .i64 0, .int .i64 0, .int .i64 0]).heap[q]? = some o := fun q o hq ho => (setRow_other _ (w.heap.size + 1) q #[.int .i64 0, .int .i64 0, .int .i64 0] (by omega)).trans ((setRow_other w1 (w.heap.size) q #[.int .u64 0, .slice none 0 0, .slice po (dfs (dwh d)).length pc] (by omega)).trans ho)
   have hOF := own_down_row (own_move_row hO (fun q o hq ho => hmv q o (by omega) ho)) (show w.heap.size ≤ w0.heap.size by omega)
   have hFF := Fts.down (Fts.move hF (fun q o hq ho => hmv q o (by omega) ho)) (show w.heap.size ≤ w0.heap.size by omega)
   have hfin : Hid (DcE w.heap.size ts d 0 (.returned (.tuple #[.agg #[.int .u64 0, .slice none 0 0, .slice po (dfs (dwh d)).length pc], .agg #[.int .i64 0, .int .i64 0, .int .i64 0]])) ((w1.setRow (w.heap.size) #[.int .u64 0, .slice none 0 0, .slice po (dfs (dwh d)).length pc]).setRow (w.heap.size + 1) #[.int .i64 0, .int .i64 0, .int .i64 0])) := hide (by unfold DcE; rw [hR.out]; exact ⟨_, _, us, rfl, hOF, hFF⟩)
   clear hO hF hmv hOF hFF
   generalize (dfs (dwh d)).length = pn at *
   have oneA : (#[Value.int .u64 0, .slice none 0 0, .slice po pn pc] : Array Value).all (·.oneCell') = true := by simp [Value.oneCell']
   have oneB : (#[Value.int .i64 0, .int .i64 0, .int .i64 0] : Array Value).all (·.oneCell') = true := by simp [Value.oneCell']
   have R7b := (setRow_other w1 (w.heap.size) (w.heap.size + 1) #[.int .u64 0, .slice none 0 0, .slice po pn pc] (by omega)).trans R7
   go_wp2_with (first | (refine wpList_store_row rfl 76 _ _ rfl (w.heap.size) #[.int .u64 0, .slice none 0 0, .slice po pn pc] rfl rfl 76 _ R6 infoV rfl oneA ?_) | (refine wpList_store_row rfl 35 _ _ rfl (w.heap.size + 1) #[.int .i64 0, .int .i64 0, .int .i64 0] rfl rfl 35 _ R7b infoFt rfl oneB ?_) | fail)
   clear R7b
   replace R7 := (setRow_other w1 (w.heap.size) (w.heap.size + 1) #[.int .u64 0, .slice none 0 0, .slice po pn pc] (by omega)).trans R7
   replace R6 := setRow_heap w1 (w.heap.size) _ (#[.int .u64 0, .slice none 0 0, .slice po pn pc]) _ _ R6
   replace hw := below_setRow hw (show w.heap.size ≤ w.heap.size by omega) #[.int .u64 0, .slice none 0 0, .slice po pn pc]
   generalize hx3 : w1.setRow (w.heap.size) #[.int .u64 0, .slice none 0 0, .slice po pn pc] = x3 at *
   replace hx3 := hide hx3
   replace R6 := (setRow_other x3 (w.heap.size + 1) (w.heap.size) #[.int .i64 0, .int .i64 0, .int .i64 0] (by omega)).trans R6
   replace R7 := setRow_heap x3 (w.heap.size + 1) _ (#[.int .i64 0, .int .i64 0, .int .i64 0]) _ _ R7
   replace hw := below_setRow hw (show w.heap.size ≤ w.heap.size + 1 by omega) #[.int .i64 0, .int .i64 0, .int .i64 0]
   exact bodyPost_ret (v := .tuple #[.agg #[.int .u64 0, .slice none 0 0, .slice po pn pc], .agg #[.int .i64 0, .int .i64 0, .int .i64 0]]) (results_cell_cell Tryz.results32 _ _ (w.heap.size) (w.heap.size + 1) _ _ _ _ _ _ _ _ rfl R6 Tryz.underlying76 rfl infoV rfl R7 Tryz.underlying35 rfl infoFt) rfl ⟨hfin.out, hw⟩
end Go.Proofs.YtlbndkfllegacaaGreatDoor
namespace Go.Proofs.YtlbndkfllegacaaGreatDoor
set_option maxRecDepth 100000
open Go Go.RowKit Go.Sort
attribute [local go_sem] setCell_drewN alloc_drewN
theorem dcF_why : ∀ (ts : List Slt) (fs : List Fd) (a : Int) (x : Flt3), dcF ts fs a = some x → x.why ≠ 0
 | [], [], _, x, h => by cases h
 | [], _ :: _, _, x, h => by cases h; show (81 : Int) ≠ 0; decide
 | _ :: _, [], _, x, h => by cases h; show (81 : Int) ≠ 0; decide
 | t :: ts, f :: fs, a, x, h => by
   rw [dcF] at h
   cases hd : dsl t f a with
   | none => rw [hd] at h; exact dcF_why ts fs _ x h
   | some y =>
     rw [hd] at h
     cases h
     unfold dsl rdE at hd
     split at hd
     · cases hd; show (81 : Int) ≠ 0; decide
     · split at hd
       · cases hd; show (82 : Int) ≠ 0; decide
       · split at hd
         · cases hd
         · rename_i hE
           cases hd
           exact hE
theorem dec8_why {ts : List Slt} {d : List B} {a : Int} {x : Flt3} (h : dec8 ts d a = some x) : x.why ≠ 0 := by
 unfold dec8 at h
 split at h
 · rename_i hE
   cases h
   exact hE
 · exact dcF_why _ _ _ _ h
def RrH (d : List B) (e : Ending) : Prop := match dec8 hdr d 0 with
 | none => e = .returned (.tuple #[.agg (hdP d), .agg #[.int .i64 0, .int .i64 0, .int .i64 0]])
 | some x => e = .returned (.tuple #[.agg (hrw z32 0 0), .agg (frw x)])
set_option maxRecDepth 100000 in
set_option maxHeartbeats 8000000 in
theorem r_ParseHeader (d : List B) (b : Value) (w : World) (hB : BysB w b d) (hcap : ∀ a l c, b = .slice a l c → l ≤ c) : Calls Tryz.prog 11 #[b] w fun e w' => RrH d e ∧ Below w.heap.size w w' := by
 have R0 := hp2_0 w (.cells (hrw z32 0 0) 28) (.cells #[.int .i64 0, .int .i64 0, .int .i64 0] 35)
 have R3 := hp2_1 w (.cells (hrw z32 0 0) 28) (.cells #[.int .i64 0, .int .i64 0, .int .i64 0] 35)
 have hw : Below w.heap.size w ((w.alloc (.cells (hrw z32 0 0) 28)).alloc (.cells #[.int .i64 0, .int .i64 0, .int .i64 0] 35)) := ((Below.refl _ _).alloc (Nat.le_refl _) _).alloc (by simp) _
 have oneZ : (#[Value.int .i64 0, .int .i64 0, .int .i64 0] : Array Value).all (·.oneCell') = true := by simp [Value.oneCell']
 replace hB := hB.keep hw
 go_enter Tryz.func11, Tryz.ntmps11
 go_upto_region 1 with (first | (refine wpList_alloc rfl 28 rfl (hrw z32 0 0) zHdr ?_) | fail)
 try simp only [size_alloc1, Act.put, List.setIfInBounds_toArray, List.set_cons_succ, List.set_cons_zero]
 generalize (w.alloc (.cells (hrw z32 0 0) 28)).alloc (.cells #[.int .i64 0, .int .i64 0, .int .i64 0] 35) = w1 at *
 go_wp2_with (fail)
 refine (r_header w1).mono ?_
 rintro e_ w2 ⟨⟨q, rfl, hq, hC⟩, hb_⟩
 have l0_ := lt_of_row R3
 have sz12 := hb_.size
 replace R0 := keep hb_ R0
 replace R3 := keep hb_ R3
 replace hB := hB.keep hb_
 replace hw := Below.after hw hb_
 clear hb_
 have cDe := hide (r_DecodeF hdr_flat d b w2 hC hB hcap)
 clear hC
 go_wp2_with (fail)
 refine cDe.out.mono ?_
 rintro e_ w3 ⟨hD, hb_⟩
 have sz2 := hw.size
 replace R0 := keep hb_ R0
 replace R3 := keep hb_ R3
 replace hw := Below.after hw hb_
 have sz3 := hb_.size
 clear hb_ cDe hB hcap
 obtain ⟨R, hR⟩ : ∃ R, dec8 hdr d 0 = R := ⟨_, rfl⟩
 unfold DcE at hD
 rw [hR] at hD
 cases R with
 | some x =>
   simp only at hD
   subst hD
   have hwy := dec8_why hR
   have bE : (x.why != 0) = true := by simpa using hwy
   have bE2 : (x.why == 0) = false := by simpa using hwy
   replace hR := hide hR
   unfold frw
   have rZ := hp2_0 w3 (.cells #[.int .u64 0, .slice none 0 0, .slice none 0 0] 76) (.cells #[.int .i64 0, .int .i64 0, .int .i64 0] 35)
   have rF := hp2_1 w3 (.cells #[.int .u64 0, .slice none 0 0, .slice none 0 0] 76) (.cells #[.int .i64 0, .int .i64 0, .int .i64 0] 35)
   have oneA : (#[Value.int .u64 0, .slice none 0 0, .slice none 0 0] : Array Value).all (·.oneCell') = true := by simp [Value.oneCell']
   have oneE : (#[Value.int .i64 x.line, .int .i64 x.at_, .int .i64 x.why] : Array Value).all (·.oneCell') = true := by simp [Value.oneCell']
   have rF2 := (setRow_other ((w3.alloc (.cells #[.int .u64 0, .slice none 0 0, .slice none 0 0] 76)).alloc (.cells #[.int .i64 0, .int .i64 0, .int .i64 0] 35)) w3.heap.size (w3.heap.size + 1) #[.int .u64 0, .slice none 0 0, .slice none 0 0] (by omega)).trans rF
   have rV2 := setRow_heap _ w3.heap.size _ #[.int .u64 0, .slice none 0 0, .slice none 0 0] _ _ rZ
   have rV := (setRow_other (((w3.alloc (.cells #[.int .u64 0, .slice none 0 0, .slice none 0 0] 76)).alloc (.cells #[.int .i64 0, .int .i64 0, .int .i64 0] 35)).setRow w3.heap.size #[.int .u64 0, .slice none 0 0, .slice none 0 0]) (w3.heap.size + 1) w3.heap.size #[.int .i64 x.line, .int .i64 x.at_, .int .i64 x.why] (by omega)).trans rV2
   have rE := setRow_heap _ (w3.heap.size + 1) _ #[.int .i64 x.line, .int .i64 x.at_, .int .i64 x.why] _ _ rF2
   have hb5 : Below w3.heap.size w3 ((((w3.alloc (.cells #[.int .u64 0, .slice none 0 0, .slice none 0 0] 76)).alloc (.cells #[.int .i64 0, .int .i64 0, .int .i64 0] 35)).setRow w3.heap.size #[.int .u64 0, .slice none 0 0, .slice none 0 0]).setRow (w3.heap.size + 1) #[.int .i64 x.line, .int .i64 x.at_, .int .i64 x.why]) := below_setRow (below_setRow (((Below.refl _ _).alloc (Nat.le_refl _) _).alloc (by simp) _) (Nat.le_refl _) #[.int .u64 0, .slice none 0 0, .slice none 0 0]) (by omega) #[.int .i64 x.line, .int .i64 x.at_, .int .i64 x.why]
   have l03 := lt_of_row R0
   have l33 := lt_of_row R3
   replace R0 := keep hb5 R0
   replace R3 := keep hb5 R3
   replace hw := Below.after hw hb5
   have lV3 := lt_of_row rV
   have lE3 := lt_of_row rE
   clear rV2
   have A1 := hide R0
   have A2 := hide hw
   have A3 := hide R3
   have A7 := hide rE
   have A8 := hide lE3
   have cW := cell_of_row _ _ 2 _ _ _ rE
   clear R0 hw R3 rE lV3 lE3 rV hb5
   go_upto_region 2 with (first | (refine wpList_store_row rfl 76 _ _ rfl w3.heap.size #[.int .u64 0, .slice none 0 0, .slice none 0 0] rfl rfl 76 _ rZ infoV rfl oneA ?_) | (refine wpList_store_row rfl 35 _ _ rfl (w3.heap.size + 1) #[.int .i64 x.line, .int .i64 x.at_, .int .i64 x.why] rfl rfl 35 _ rF2 infoFt rfl oneE ?_) | fail)
   simp only [Act.put]
   clear rZ rF rF2
   generalize (((w3.alloc (.cells #[.int .u64 0, .slice none 0 0, .slice none 0 0] 76)).alloc (.cells #[.int .i64 0, .int .i64 0, .int .i64 0] 35)).setRow w3.heap.size #[.int .u64 0, .slice none 0 0, .slice none 0 0]).setRow (w3.heap.size + 1) #[.int .i64 x.line, .int .i64 x.at_, .int .i64 x.why] = w6 at *
   have R0 := A1.out
   have hw := A2.out
   have R3 := A3.out
   have RE := A7.out
   have lE6 := A8.out
   clear A1 A2 A3 A7 A8
   generalize hgE : w3.heap.size + 1 = gE at *
   have hgE2 : w.heap.size + 1 < gE := by omega
   clear hgE
   go_upto_region 3 with (fail)
   clear cW
   have hbd : Below w6.heap.size w6 w6.drew := below_drN (Below.refl _ _) 1
   replace RE := keep hbd RE
   replace R0 := keep hbd R0
   replace R3 := keep hbd R3
   replace hw := Below.after hw hbd
   clear hbd
   refine wp_region_held (S := fun W : World => W.heap[gE]? = some (.cells #[.int .i64 x.line, .int .i64 x.at_, .int .i64 x.why] 35 (0, 0))) (by kernel_rfl) ?_
   change wpAnyH _ _ _ _ _ _ _ _ (World.drew _)
   generalize w6.drew = z1 at *
   refine wpAnyH_take (i := 0) (v := .agg (hrw z32 0 0)) rfl (by kernel_rfl) (by kernel_rfl) (by kernel_rfl) (fun _ _ _ h => h) (Or.inl ⟨by rfl, ?y48⟩) RE ?r48
   case y48 =>
     intro w_ hS_
     simp only [List.getElem_toArray, List.getElem_cons_zero]
     exact run_build_op 28 _ rfl [] rfl _ builtH0
   simp only [Act.put, List.getElem_toArray, List.getElem_cons_zero, List.setIfInBounds_toArray, List.set_cons_succ, List.set_cons_zero]
   refine wpAnyH_take (i := 1) (v := .agg #[.int .i64 x.line, .int .i64 x.at_, .int .i64 x.why]) rfl (by kernel_rfl) (by kernel_rfl) (by kernel_rfl) (fun _ _ _ h => h) (yieldsIf_load_mid (by rfl) 35 _ rfl gE 0 rfl [.int .i64 x.line, .int .i64 x.at_, .int .i64 x.why] _ (fun _ h => range_row ⟨_, h⟩) Tryz.underlying35 rfl infoFt) RE ?_
   simp only [Act.put, List.getElem_toArray, List.getElem_cons_succ, List.getElem_cons_zero, List.setIfInBounds_toArray, List.set_cons_succ, List.set_cons_zero]
   refine wpAnyH_one (k := 2) (fuel := 1) (by kernel_rfl) rfl (by kernel_rfl) (fun K_ hK_ => ?_)
   refine wp_store_row 28 _ _ rfl (w.heap.size) (hrw z32 0 0) rfl rfl 28 _ R0 (hrw_info _ z32_len 0 0) rfl (hrw_one _ _ _) ?_
   replace RE := (setRow_other z1 (w.heap.size) gE (hrw z32 0 0) (by omega)).trans RE
   replace R3 := (setRow_other z1 (w.heap.size) (w.heap.size + 1) (hrw z32 0 0) (by omega)).trans R3
   replace R0 := setRow_heap z1 (w.heap.size) _ ((hrw z32 0 0)) _ _ R0
   replace hw := below_setRow hw (show w.heap.size ≤ w.heap.size by omega) (hrw z32 0 0)
   refine hK_ _ _ RE ?_
   simp only [Act.put, List.getElem_toArray, List.getElem_cons_succ, List.getElem_cons_zero]
   clear hK_
   generalize z1.setRow (w.heap.size) (hrw z32 0 0) = z2 at *
   refine wpAnyH_one (k := 3) (fuel := 0) (by kernel_rfl) rfl (by kernel_rfl) (fun K_ hK_ => ?_)
   refine wp_store_row 35 _ _ rfl (w.heap.size + 1) #[.int .i64 x.line, .int .i64 x.at_, .int .i64 x.why] rfl rfl 35 _ R3 infoFt rfl oneE ?_
   replace RE := (setRow_other z2 (w.heap.size + 1) gE #[.int .i64 x.line, .int .i64 x.at_, .int .i64 x.why] (by omega)).trans RE
   replace R0 := (setRow_other z2 (w.heap.size + 1) (w.heap.size) #[.int .i64 x.line, .int .i64 x.at_, .int .i64 x.why] (by omega)).trans R0
   replace R3 := setRow_heap z2 (w.heap.size + 1) _ (#[.int .i64 x.line, .int .i64 x.at_, .int .i64 x.why]) _ _ R3
   replace hw := below_setRow hw (show w.heap.size ≤ w.heap.size + 1 by omega) #[.int .i64 x.line, .int .i64 x.at_, .int .i64 x.why]
   refine hK_ _ _ RE ?_
   simp only [Act.put, List.getElem_toArray, List.getElem_cons_succ, List.getElem_cons_zero]
   clear hK_
   refine wpAnyH_done (by kernel_rfl) ?_ _
   go_wp2_with (fail)
   exact bodyPost_ret (v := .tuple #[.agg (hrw z32 0 0), .agg #[.int .i64 x.line, .int .i64 x.at_, .int .i64 x.why]]) (results_cell_cell Tryz.results11 _ _ (w.heap.size) (w.heap.size + 1) _ _ _ _ _ _ _ _ rfl R0 Tryz.underlying28 rfl (hrw_info _ z32_len 0 0) rfl R3 Tryz.underlying35 rfl infoFt) rfl ⟨by unfold RrH; rw [hR.out]; rfl, hw⟩
 | none =>
   obtain ⟨pv, fv, us, rfl, hO, hF⟩ := hD
   obtain ⟨hd0, pub, prev, m, hfs, hp, h1, h2⟩ := dec_hdr hR
   rw [hfs] at hO hF
   obtain ⟨pb, pc, rfl, hpb1, hpb2, hra⟩ := own_rangeR hO (by simp)
   have hu : us.length = 3 := hF.2.1
   obtain ⟨g0, c0, e0, hc0, hgb0, hgl0, hr0⟩ := own_range (hF.2.2.1 0 (by omega)) (by show 0 < pub.length; omega)
   have hvr : vrk [⟨1, 2, 0, pub⟩, ⟨2, 5, prev, []⟩, ⟨3, 5, m, []⟩] us 3 = [.int .u64 0, .slice (some ⟨g0, 0, none⟩) 32 c0, .slice none 0 0, .int .u64 (prev : Int), gv us 1, .slice none 0 0, .int .u64 (m : Int), gv us 2, .slice none 0 0] := by
     have q0 : gv us 0 = .slice (some ⟨g0, 0, none⟩) 32 c0 := by rw [e0]; show Value.slice _ pub.length _ = _; rw [hp]
     rw [← q0]
     rfl
   have hra' : w3.rangeAt pb 0 [.int .u64 0, .slice (some ⟨g0, 0, none⟩) 32 c0, .slice none 0 0, .int .u64 (prev : Int), gv us 1, .slice none 0 0, .int .u64 (m : Int), gv us 2, .slice none 0 0] := by rw [← hvr]; exact hra
   replace hra := hra'
   replace hr0 : w3.rangeAt g0 0 ((bl pub).map (Value.int .u8)) := hr0
   replace hfs := hide hfs
   replace hR := hide hR
   clear hra' hvr e0 hO hF hd0 hu hc0
   generalize gv us 1 = uu1 at *
   generalize gv us 2 = uu2 at *
   have rZ := hp2_0 w3 (.cells #[.int .u64 0, .slice none 0 0, .slice none 0 0] 76) (.cells #[.int .i64 0, .int .i64 0, .int .i64 0] 35)
   have rF := hp2_1 w3 (.cells #[.int .u64 0, .slice none 0 0, .slice none 0 0] 76) (.cells #[.int .i64 0, .int .i64 0, .int .i64 0] 35)
   have oneA : (#[Value.int .u64 0, .slice none 0 0, .slice (some ⟨pb, 0, none⟩) 3 pc] : Array Value).all (·.oneCell') = true := by simp [Value.oneCell']
   have oneE : (#[Value.int .i64 0, .int .i64 0, .int .i64 0] : Array Value).all (·.oneCell') = true := by simp [Value.oneCell']
   have rF2 := (setRow_other ((w3.alloc (.cells #[.int .u64 0, .slice none 0 0, .slice none 0 0] 76)).alloc (.cells #[.int .i64 0, .int .i64 0, .int .i64 0] 35)) w3.heap.size (w3.heap.size + 1) #[.int .u64 0, .slice none 0 0, .slice (some ⟨pb, 0, none⟩) 3 pc] (by omega)).trans rF
   have rV2 := setRow_heap _ w3.heap.size _ #[.int .u64 0, .slice none 0 0, .slice (some ⟨pb, 0, none⟩) 3 pc] _ _ rZ
   have rV := (setRow_other (((w3.alloc (.cells #[.int .u64 0, .slice none 0 0, .slice none 0 0] 76)).alloc (.cells #[.int .i64 0, .int .i64 0, .int .i64 0] 35)).setRow w3.heap.size #[.int .u64 0, .slice none 0 0, .slice (some ⟨pb, 0, none⟩) 3 pc]) (w3.heap.size + 1) w3.heap.size #[.int .i64 0, .int .i64 0, .int .i64 0] (by omega)).trans rV2
   have rE := setRow_heap _ (w3.heap.size + 1) _ #[.int .i64 0, .int .i64 0, .int .i64 0] _ _ rF2
   have hb5 : Below w3.heap.size w3 ((((w3.alloc (.cells #[.int .u64 0, .slice none 0 0, .slice none 0 0] 76)).alloc (.cells #[.int .i64 0, .int .i64 0, .int .i64 0] 35)).setRow w3.heap.size #[.int .u64 0, .slice none 0 0, .slice (some ⟨pb, 0, none⟩) 3 pc]).setRow (w3.heap.size + 1) #[.int .i64 0, .int .i64 0, .int .i64 0]) := below_setRow (below_setRow (((Below.refl _ _).alloc (Nat.le_refl _) _).alloc (by simp) _) (Nat.le_refl _) #[.int .u64 0, .slice none 0 0, .slice (some ⟨pb, 0, none⟩) 3 pc]) (by omega) #[.int .i64 0, .int .i64 0, .int .i64 0]
   have l03 := lt_of_row R0
   have l33 := lt_of_row R3
   replace R0 := keep hb5 R0
   replace R3 := keep hb5 R3
   replace hw := Below.after hw hb5
   have lV3 := lt_of_row rV
   have lE3 := lt_of_row rE
   clear rV2
   replace hra := rangeS_keep2 hra hb5 hpb2
   replace hr0 := rangeS_keep2 hr0 hb5 hgl0
   have A1 := hide R0
   have A2 := hide hw
   have A3 := hide hra
   have A4 := hide hr0
   have A5 := hide R3
   have A7 := hide rV
   have A8 := hide lV3
   have cW := cell_of_row _ _ 2 _ _ _ rE
   clear R0 R3 hw hra hr0 rV lV3 lE3 rE hb5
   go_upto_region 2 with (first | (refine wpList_store_row rfl 76 _ _ rfl w3.heap.size #[.int .u64 0, .slice none 0 0, .slice (some ⟨pb, 0, none⟩) 3 pc] rfl rfl 76 _ rZ infoV rfl oneA ?_) | (refine wpList_store_row rfl 35 _ _ rfl (w3.heap.size + 1) #[.int .i64 0, .int .i64 0, .int .i64 0] rfl rfl 35 _ rF2 infoFt rfl oneE ?_) | fail)
   simp only [Act.put]
   clear rZ rF rF2
   generalize (((w3.alloc (.cells #[.int .u64 0, .slice none 0 0, .slice none 0 0] 76)).alloc (.cells #[.int .i64 0, .int .i64 0, .int .i64 0] 35)).setRow w3.heap.size #[.int .u64 0, .slice none 0 0, .slice (some ⟨pb, 0, none⟩) 3 pc]).setRow (w3.heap.size + 1) #[.int .i64 0, .int .i64 0, .int .i64 0] = w6 at *
   go_upto_region 4 with (fail)
   have R0 := A1.out
   have hw := A2.out
   have hra := A3.out
   have hr0 := A4.out
   have R3 := A5.out
   have rV := A7.out
   have lV6 := A8.out
   clear A1 A2 A3 A4 A5 A7 A8 cW
   generalize w3.heap.size = gV at *
   have wq1 : IntKind.wrap .u32 (prev : Int) = (prev : Int) := by show (prev : Int) % 4294967296 = prev; omega
   have wq2 : IntKind.wrap .u32 (m : Int) = (m : Int) := by show (m : Int) % 4294967296 = m; omega
   have HS : (fun W : World => W.heap[gV]? = some (.cells #[.int .u64 0, .slice none 0 0, .slice (some ⟨pb, 0, none⟩) 3 pc] 76 (0, 0)) ∧ W.rangeAt pb 0 [.int .u64 0, .slice (some ⟨g0, 0, none⟩) 32 c0, .slice none 0 0, .int .u64 (prev : Int), uu1, .slice none 0 0, .int .u64 (m : Int), uu2, .slice none 0 0] ∧ W.rangeAt g0 0 ((bl pub).map (Value.int .u8))) w6.drew := ⟨rV, hra, hr0⟩
   have hbd : Below w6.heap.size w6 w6.drew := below_drN (Below.refl _ _) 1
   replace R0 := keep hbd R0
   replace R3 := keep hbd R3
   replace hw := Below.after hw hbd
   have szd := hbd.size
   clear hbd rV hra hr0
   refine wp_region_held (S := fun W : World => W.heap[gV]? = some (.cells #[.int .u64 0, .slice none 0 0, .slice (some ⟨pb, 0, none⟩) 3 pc] 76 (0, 0)) ∧ W.rangeAt pb 0 [.int .u64 0, .slice (some ⟨g0, 0, none⟩) 32 c0, .slice none 0 0, .int .u64 (prev : Int), uu1, .slice none 0 0, .int .u64 (m : Int), uu2, .slice none 0 0] ∧ W.rangeAt g0 0 ((bl pub).map (Value.int .u8))) (by kernel_rfl) ?_
   change wpAnyH _ _ _ _ _ _ _ _ (World.drew _)
   generalize w6.drew = w7 at *
   refine wpAnyH_take (i := 0) (v := ?v28) rfl (by kernel_rfl) (by kernel_rfl) (by kernel_rfl) (fun _ _ _ h => h) (Or.inl ⟨by rfl, ?y28⟩) HS ?r28
   case y28 =>
     intro w_ hS_
     go_simp
     try with_reducible rfl
   simp only [Act.put, List.getElem_toArray, List.getElem_cons_zero, List.setIfInBounds_toArray, List.set_cons_succ, List.set_cons_zero]
   refine wpAnyH_take (i := 1) (v := .slice (some ⟨pb, 0, none⟩) 3 pc) rfl (by kernel_rfl) (by kernel_rfl) (by kernel_rfl) (fun _ _ _ h => h) (Or.inl ⟨by rfl, ?y29⟩) HS ?r29
   case y29 =>
     intro w_ hS_
     have c_ := cell_of_row _ _ 2 _ _ _ hS_.1
     go_simp
     try with_reducible rfl
   simp only [Act.put, List.getElem_toArray, List.getElem_cons_succ, List.getElem_cons_zero, List.setIfInBounds_toArray, List.set_cons_succ, List.set_cons_zero]
   refine wpAnyH_take (i := 2) (v := ?v30) rfl (by kernel_rfl) (by kernel_rfl) (by kernel_rfl) (fun _ _ _ h => h) (Or.inl ⟨by rfl, ?y30⟩) HS ?r30
   case y30 =>
     intro w_ hS_
     go_simp
     try with_reducible rfl
   simp only [Act.put, List.getElem_toArray, List.getElem_cons_succ, List.getElem_cons_zero, List.setIfInBounds_toArray, List.set_cons_succ, List.set_cons_zero]
   refine wpAnyH_take (i := 3) (v := ?v31) rfl (by kernel_rfl) (by kernel_rfl) (by kernel_rfl) (fun _ _ _ h => h) (Or.inl ⟨by rfl, ?y31⟩) HS ?r31
   case y31 =>
     intro w_ hS_
     go_simp
     try with_reducible rfl
   simp only [Act.put, List.getElem_toArray, List.getElem_cons_succ, List.getElem_cons_zero, List.setIfInBounds_toArray, List.set_cons_succ, List.set_cons_zero]
   refine wpAnyH_take (i := 4) (v := .int .u64 (prev : Int)) rfl (by kernel_rfl) (by kernel_rfl) (by kernel_rfl) (fun _ _ _ h => h) (Or.inl ⟨by rfl, ?y32⟩) HS ?r32
   case y32 =>
     intro w_ hS_
     have c_ : w_.cell? ⟨pb, 3, none⟩ = some (.int .u64 (prev : Int)) := hS_.2.1 3 _ rfl
     go_simp
     try with_reducible rfl
   simp only [Act.put, List.getElem_toArray, List.getElem_cons_succ, List.getElem_cons_zero, List.setIfInBounds_toArray, List.set_cons_succ, List.set_cons_zero]
   refine wpAnyH_take (i := 5) (v := .int .u32 (prev : Int)) rfl (by kernel_rfl) (by kernel_rfl) (by kernel_rfl) (fun _ _ _ h => h) (Or.inl ⟨by rfl, ?y33⟩) HS ?r33
   case y33 =>
     intro w_ hS_
     go_simp
     try with_reducible rfl
   simp only [Act.put, List.getElem_toArray, List.getElem_cons_succ, List.getElem_cons_zero, List.setIfInBounds_toArray, List.set_cons_succ, List.set_cons_zero]
   refine wpAnyH_take (i := 6) (v := ?v34) rfl (by kernel_rfl) (by kernel_rfl) (by kernel_rfl) (fun _ _ _ h => h) (Or.inl ⟨by rfl, ?y34⟩) HS ?r34
   case y34 =>
     intro w_ hS_
     go_simp
     try with_reducible rfl
   simp only [Act.put, List.getElem_toArray, List.getElem_cons_succ, List.getElem_cons_zero, List.setIfInBounds_toArray, List.set_cons_succ, List.set_cons_zero]
   refine wpAnyH_take (i := 7) (v := .slice (some ⟨pb, 0, none⟩) 3 pc) rfl (by kernel_rfl) (by kernel_rfl) (by kernel_rfl) (fun _ _ _ h => h) (Or.inl ⟨by rfl, ?y35⟩) HS ?r35
   case y35 =>
     intro w_ hS_
     have c_ := cell_of_row _ _ 2 _ _ _ hS_.1
     go_simp
     try with_reducible rfl
   simp only [Act.put, List.getElem_toArray, List.getElem_cons_succ, List.getElem_cons_zero, List.setIfInBounds_toArray, List.set_cons_succ, List.set_cons_zero]
   refine wpAnyH_take (i := 8) (v := ?v36) rfl (by kernel_rfl) (by kernel_rfl) (by kernel_rfl) (fun _ _ _ h => h) (Or.inl ⟨by rfl, ?y36⟩) HS ?r36
   case y36 =>
     intro w_ hS_
     go_simp
     try with_reducible rfl
   simp only [Act.put, List.getElem_toArray, List.getElem_cons_succ, List.getElem_cons_zero, List.setIfInBounds_toArray, List.set_cons_succ, List.set_cons_zero]
   refine wpAnyH_take (i := 9) (v := ?v37) rfl (by kernel_rfl) (by kernel_rfl) (by kernel_rfl) (fun _ _ _ h => h) (Or.inl ⟨by rfl, ?y37⟩) HS ?r37
   case y37 =>
     intro w_ hS_
     go_simp
     try with_reducible rfl
   simp only [Act.put, List.getElem_toArray, List.getElem_cons_succ, List.getElem_cons_zero, List.setIfInBounds_toArray, List.set_cons_succ, List.set_cons_zero]
   refine wpAnyH_take (i := 10) (v := .int .u64 (m : Int)) rfl (by kernel_rfl) (by kernel_rfl) (by kernel_rfl) (fun _ _ _ h => h) (Or.inl ⟨by rfl, ?y38⟩) HS ?r38
   case y38 =>
     intro w_ hS_
     have c_ : w_.cell? ⟨pb, 6, none⟩ = some (.int .u64 (m : Int)) := hS_.2.1 6 _ rfl
     go_simp
     try with_reducible rfl
   simp only [Act.put, List.getElem_toArray, List.getElem_cons_succ, List.getElem_cons_zero, List.setIfInBounds_toArray, List.set_cons_succ, List.set_cons_zero]
   refine wpAnyH_take (i := 11) (v := .int .u32 (m : Int)) rfl (by kernel_rfl) (by kernel_rfl) (by kernel_rfl) (fun _ _ _ h => h) (Or.inl ⟨by rfl, ?y39⟩) HS ?r39
   case y39 =>
     intro w_ hS_
     go_simp
     try with_reducible rfl
   simp only [Act.put, List.getElem_toArray, List.getElem_cons_succ, List.getElem_cons_zero, List.setIfInBounds_toArray, List.set_cons_succ, List.set_cons_zero]
   refine wpAnyH_take (i := 12) (v := .agg (hrw z32 prev m)) rfl (by kernel_rfl) (by kernel_rfl) (by kernel_rfl) (fun _ _ _ h => h) (Or.inl ⟨by rfl, ?y40⟩) HS ?r40
   case y40 =>
     intro w_ hS_
     simp only [List.getElem_toArray, List.getElem_cons_succ, List.getElem_cons_zero]
     exact run_build_op 28 _ rfl [(1, .int .u32 (prev : Int)), (2, .int .u32 (m : Int))] rfl _ (builtH2 prev m)
   simp only [Act.put, List.getElem_toArray, List.getElem_cons_succ, List.getElem_cons_zero, List.setIfInBounds_toArray, List.set_cons_succ, List.set_cons_zero]
   refine wpAnyH_one (k := 13) (fuel := 1) (by kernel_rfl) rfl (by kernel_rfl) (fun K_ hK => ?_)
   refine wp_val_op (.pointer (some ⟨w7.heap.size, 0, none⟩)) (w' := w7.alloc (.cells (hrw z32 0 0) 28)) (by kernel_rfl) ?_
   have RB := hp1_0 w7 (.cells (hrw z32 0 0) 28)
   have l0_ := lt_of_row R0
   have l3_ := lt_of_row R3
   have lVV := lt_of_row HS.1
   have hb_ : Below w7.heap.size w7 (w7.alloc (.cells (hrw z32 0 0) 28)) := (Below.refl _ _).alloc (Nat.le_refl _) _
   have HS' : (fun W : World => W.heap[gV]? = some (.cells #[.int .u64 0, .slice none 0 0, .slice (some ⟨pb, 0, none⟩) 3 pc] 76 (0, 0)) ∧ W.rangeAt pb 0 [.int .u64 0, .slice (some ⟨g0, 0, none⟩) 32 c0, .slice none 0 0, .int .u64 (prev : Int), uu1, .slice none 0 0, .int .u64 (m : Int), uu2, .slice none 0 0] ∧ W.rangeAt g0 0 ((bl pub).map (Value.int .u8))) _ := ⟨keep hb_ HS.1, rangeS_keep2 HS.2.1 hb_ (by omega), rangeS_keep2 HS.2.2 hb_ (by omega)⟩
   replace HS := HS'
   clear HS'
   replace R0 := keep hb_ R0
   replace R3 := keep hb_ R3
   replace hw := Below.after hw hb_
   clear hb_
   refine hK _ _ HS ?_
   simp only [Act.put, List.getElem_toArray, List.getElem_cons_succ, List.getElem_cons_zero, List.setIfInBounds_toArray, List.set_cons_succ, List.set_cons_zero]
   clear hK
   generalize w7.alloc (.cells (hrw z32 0 0) 28) = w8 at *
   generalize w7.heap.size = gB at *
   refine wpAnyH_one (k := 14) (fuel := 0) (by kernel_rfl) rfl (by kernel_rfl) (fun K_ hK => ?_)
   refine wp_store_row 28 _ _ rfl gB (hrw z32 prev m) rfl rfl 28 _ RB (hrw_info z32 z32_len prev m) (by rw [hrw_size _ z32_len, hrw_size _ z32_len]) (hrw_one _ _ _) ?_
   have HS' : (fun W : World => W.heap[gV]? = some (.cells #[.int .u64 0, .slice none 0 0, .slice (some ⟨pb, 0, none⟩) 3 pc] 76 (0, 0)) ∧ W.rangeAt pb 0 [.int .u64 0, .slice (some ⟨g0, 0, none⟩) 32 c0, .slice none 0 0, .int .u64 (prev : Int), uu1, .slice none 0 0, .int .u64 (m : Int), uu2, .slice none 0 0] ∧ W.rangeAt g0 0 ((bl pub).map (Value.int .u8))) (w8.setRow gB (hrw z32 prev m)) := ⟨(setRow_other w8 gB gV (hrw z32 prev m) (by omega)).trans HS.1, mv_range HS.2.1 (setRow_other w8 gB pb (hrw z32 prev m) (by omega)), mv_range HS.2.2 (setRow_other w8 gB g0 (hrw z32 prev m) (by omega))⟩
   replace R0 := (setRow_other w8 gB (w.heap.size) (hrw z32 prev m) (by omega)).trans R0
   replace RB := setRow_heap w8 gB _ (hrw z32 prev m) _ _ RB
   replace hw := below_setRow hw (show w.heap.size ≤ gB by omega) (hrw z32 prev m)
   replace R3 := (setRow_other w8 gB (w.heap.size + 1) (hrw z32 prev m) (by omega)).trans R3
   refine hK _ _ HS' ?_
   simp only [Act.put]
   clear hK HS
   generalize w8.setRow gB (hrw z32 prev m) = w9 at *
   refine wpAnyH_done (by kernel_rfl) ?_ _
   go_upto_region 5 with (fail)
   have hbd : Below w9.heap.size w9 w9.drew := below_drN (Below.refl _ _) 1
   have HS : (fun W : World => W.heap[gV]? = some (.cells #[.int .u64 0, .slice none 0 0, .slice (some ⟨pb, 0, none⟩) 3 pc] 76 (0, 0)) ∧ W.rangeAt pb 0 [.int .u64 0, .slice (some ⟨g0, 0, none⟩) 32 c0, .slice none 0 0, .int .u64 (prev : Int), uu1, .slice none 0 0, .int .u64 (m : Int), uu2, .slice none 0 0] ∧ W.rangeAt g0 0 ((bl pub).map (Value.int .u8))) w9.drew := HS'
   replace R0 := keep hbd R0
   replace R3 := keep hbd R3
   replace RB := keep hbd RB
   replace hw := Below.after hw hbd
   have sk := slice_ko gB 0
   clear hbd HS' wq1 wq2
   refine wp_region_held (S := fun W : World => W.heap[gV]? = some (.cells #[.int .u64 0, .slice none 0 0, .slice (some ⟨pb, 0, none⟩) 3 pc] 76 (0, 0)) ∧ W.rangeAt pb 0 [.int .u64 0, .slice (some ⟨g0, 0, none⟩) 32 c0, .slice none 0 0, .int .u64 (prev : Int), uu1, .slice none 0 0, .int .u64 (m : Int), uu2, .slice none 0 0] ∧ W.rangeAt g0 0 ((bl pub).map (Value.int .u8))) (by kernel_rfl) ?_
   change wpAnyH _ _ _ _ _ _ _ _ (World.drew _)
   generalize w9.drew = w10 at *
   refine wpAnyH_take (i := 0) (v := ?v41) rfl (by kernel_rfl) (by kernel_rfl) (by kernel_rfl) (fun _ _ _ h => h) (Or.inl ⟨by rfl, ?y41⟩) HS ?r41
   case y41 =>
     intro w_ hS_
     go_simp
     try with_reducible rfl
   simp only [Act.put, List.getElem_toArray, List.getElem_cons_zero, List.setIfInBounds_toArray]
   refine wpAnyH_take (i := 1) (v := .slice (some ⟨gB, 0, none⟩) 32 32) rfl (by kernel_rfl) (by kernel_rfl) (by kernel_rfl) (fun _ _ _ h => h) (Or.inl ⟨by rfl, ?y42⟩) HS ?r42
   case y42 =>
     intro w_ hS_
     go_simp
     try with_reducible rfl
   simp only [Act.put, List.getElem_toArray, List.getElem_cons_succ, List.getElem_cons_zero, List.setIfInBounds_toArray, List.set_cons_succ, List.set_cons_zero]
   refine wpAnyH_take (i := 2) (v := ?v43) rfl (by kernel_rfl) (by kernel_rfl) (by kernel_rfl) (fun _ _ _ h => h) (Or.inl ⟨by rfl, ?y43⟩) HS ?r43
   case y43 =>
     intro w_ hS_
     go_simp
     try with_reducible rfl
   simp only [Act.put, List.getElem_toArray, List.getElem_cons_succ, List.getElem_cons_zero, List.setIfInBounds_toArray, List.set_cons_succ, List.set_cons_zero]
   refine wpAnyH_take (i := 3) (v := .slice (some ⟨pb, 0, none⟩) 3 pc) rfl (by kernel_rfl) (by kernel_rfl) (by kernel_rfl) (fun _ _ _ h => h) (Or.inl ⟨by rfl, ?y44⟩) HS ?r44
   case y44 =>
     intro w_ hS_
     have c_ := cell_of_row _ _ 2 _ _ _ hS_.1
     go_simp
     try with_reducible rfl
   simp only [Act.put, List.getElem_toArray, List.getElem_cons_succ, List.getElem_cons_zero, List.setIfInBounds_toArray, List.set_cons_succ, List.set_cons_zero]
   refine wpAnyH_take (i := 4) (v := ?v45) rfl (by kernel_rfl) (by kernel_rfl) (by kernel_rfl) (fun _ _ _ h => h) (Or.inl ⟨by rfl, ?y45⟩) HS ?r45
   case y45 =>
     intro w_ hS_
     go_simp
     try with_reducible rfl
   simp only [Act.put, List.getElem_toArray, List.getElem_cons_succ, List.getElem_cons_zero, List.setIfInBounds_toArray, List.set_cons_succ, List.set_cons_zero]
   refine wpAnyH_take (i := 5) (v := ?v46) rfl (by kernel_rfl) (by kernel_rfl) (by kernel_rfl) (fun _ _ _ h => h) (Or.inl ⟨by rfl, ?y46⟩) HS ?r46
   case y46 =>
     intro w_ hS_
     go_simp
     try with_reducible rfl
   simp only [Act.put, List.getElem_toArray, List.getElem_cons_succ, List.getElem_cons_zero, List.setIfInBounds_toArray, List.set_cons_succ, List.set_cons_zero]
   refine wpAnyH_take (i := 6) (v := .slice (some ⟨g0, 0, none⟩) 32 c0) rfl (by kernel_rfl) (by kernel_rfl) (by kernel_rfl) (fun _ _ _ h => h) (Or.inl ⟨by rfl, ?y47⟩) HS ?r47
   case y47 =>
     intro w_ hS_
     have c_ : w_.cell? ⟨pb, 1, none⟩ = some (.slice (some ⟨g0, 0, none⟩) 32 c0) := hS_.2.1 1 _ rfl
     go_simp
     try with_reducible rfl
   simp only [Act.put, List.getElem_toArray, List.getElem_cons_succ, List.getElem_cons_zero, List.setIfInBounds_toArray, List.set_cons_succ, List.set_cons_zero]
   refine wpAnyH_one (k := 7) (fuel := 0) (by kernel_rfl) rfl (by kernel_rfl) (fun K_ hK => ?_)
   refine wp_copyR _ _ 22 22 rfl 5 Tryz.underlying22 (by kernel_rfl) gB 0 32 32 ⟨g0, 0, none⟩ 32 c0 rfl rfl (hrw z32 prev m) 28 RB ((bl pub).map (Value.int .u8)) (by rw [List.length_map, bl_len, hp]; rfl) (fun j v hv => by rw [addr_add]; exact HS.2.2 j v hv) (by rw [List.length_map, bl_len, hp, hrw_size _ z32_len]; decide) (fun v hv => by obtain ⟨x, _, rfl⟩ := List.mem_map.1 hv; rfl) ?_
   rw [hrw_copy pub hp prev m]
   have HS' : (fun W : World => W.heap[gV]? = some (.cells #[.int .u64 0, .slice none 0 0, .slice (some ⟨pb, 0, none⟩) 3 pc] 76 (0, 0)) ∧ W.rangeAt pb 0 [.int .u64 0, .slice (some ⟨g0, 0, none⟩) 32 c0, .slice none 0 0, .int .u64 (prev : Int), uu1, .slice none 0 0, .int .u64 (m : Int), uu2, .slice none 0 0] ∧ W.rangeAt g0 0 ((bl pub).map (Value.int .u8))) (w10.setRow gB (hrw pub prev m)) := ⟨(setRow_other w10 gB gV (hrw pub prev m) (by omega)).trans HS.1, mv_range HS.2.1 (setRow_other w10 gB pb (hrw pub prev m) (by omega)), mv_range HS.2.2 (setRow_other w10 gB g0 (hrw pub prev m) (by omega))⟩
   replace R0 := (setRow_other w10 gB (w.heap.size) (hrw pub prev m) (by omega)).trans R0
   replace RB := setRow_heap w10 gB _ (hrw pub prev m) _ _ RB
   replace hw := below_setRow hw (show w.heap.size ≤ gB by omega) (hrw pub prev m)
   replace R3 := (setRow_other w10 gB (w.heap.size + 1) (hrw pub prev m) (by omega)).trans R3
   refine hK _ _ HS' ?_
   simp only [Act.put, List.getElem_toArray, List.getElem_cons_succ, List.getElem_cons_zero, List.setIfInBounds_toArray, List.set_cons_succ, List.set_cons_zero]
   clear hK HS HS'
   generalize w10.setRow gB (hrw pub prev m) = w11 at *
   refine wpAnyH_done (by kernel_rfl) ?_ _
   have hpb : Hid (hdP d = (hrw pub prev m)) := hide (by unfold hdP; rw [hfs.out]; rfl)
   have R3b := (setRow_other w11 (w.heap.size) (w.heap.size + 1) (hrw pub prev m) (by omega)).trans R3
   go_wp2_with (first | (refine wpList_load_want rfl 28 _ rfl gB rfl 28 (hrw pub prev m) (0, 0) _ RB Tryz.underlying28 rfl (hrw_info _ hp prev m) ?_) | (refine wpList_build_want rfl 35 _ rfl [] rfl #[.int .i64 0, .int .i64 0, .int .i64 0] builtZeR ?_) | (refine wpList_store_row rfl 28 _ _ rfl (w.heap.size) (hrw pub prev m) rfl rfl 28 _ R0 (hrw_info _ hp prev m) (by rw [hrw_size _ z32_len, hrw_size _ hp]) (hrw_one _ _ _) ?_) | (refine wpList_store_row rfl 35 _ _ rfl (w.heap.size + 1) #[.int .i64 0, .int .i64 0, .int .i64 0] rfl rfl 35 _ R3b infoFt rfl oneZ ?_) | fail)
   clear R3b
   replace R3 := (setRow_other w11 (w.heap.size) (w.heap.size + 1) (hrw pub prev m) (by omega)).trans R3
   replace R0 := setRow_heap w11 (w.heap.size) _ ((hrw pub prev m)) _ _ R0
   replace hw := below_setRow hw (show w.heap.size ≤ w.heap.size by omega) (hrw pub prev m)
   generalize w11.setRow (w.heap.size) (hrw pub prev m) = x3 at *
   replace R0 := (setRow_other x3 (w.heap.size + 1) (w.heap.size) #[.int .i64 0, .int .i64 0, .int .i64 0] (by omega)).trans R0
   replace R3 := setRow_heap x3 (w.heap.size + 1) _ (#[.int .i64 0, .int .i64 0, .int .i64 0]) _ _ R3
   replace hw := below_setRow hw (show w.heap.size ≤ w.heap.size + 1 by omega) #[.int .i64 0, .int .i64 0, .int .i64 0]
   exact bodyPost_ret (v := .tuple #[.agg (hrw pub prev m), .agg #[.int .i64 0, .int .i64 0, .int .i64 0]]) (results_cell_cell Tryz.results11 _ _ (w.heap.size) (w.heap.size + 1) _ _ _ _ _ _ _ _ rfl R0 Tryz.underlying28 rfl (hrw_info _ hp prev m) rfl R3 Tryz.underlying35 rfl infoFt) rfl ⟨by unfold RrH; rw [hR.out, hpb.out], hw⟩
end Go.Proofs.YtlbndkfllegacaaGreatDoor

