import Derived.Test.YtjoohgkgkabbpaaGreatDoorVJrs
import Derived.OwnWalk
import Derived.Deep.Cut
import Derived.Deep.RegionHeld3
import Derived.Test.YtjoohgkgkabbpaaGreatDoorVJre
import Derived.Test.YtjoohgkgkabbpaaGreatDoorVJrx
import Derived.Test.YtjoohgkgkabbpaaGreatDoorVQd1
import Derived.Test.YtjoohgkgkabbpaaGreatDoorVOpen
import Derived.Test.YtjoohgkgkabbpaaGreatDoorVQc0
import Derived.Test.YtjoohgkgkabbpaaGreatDoorVQb5
import Derived.Test.YtjoohgkgkabbpaaGreatDoorVJrq
namespace Go.Proofs.YtjoohgkgkabbpaaGreatDoor
set_option maxRecDepth 100000
open Go Go.RowKit Go.Sort
attribute [local go_sem] setCell_drewN alloc_drewN
set_option maxRecDepth 100000 in
set_option maxHeartbeats 8000000 in
theorem r_DecodeF {g : Nat} {ts : List Slt} (hfl : ∀ i, i < ts.length → Fla (gs ts i)) (d : List B) (bv : Value) (w : World) (hC : Rdc w g ts) (hB : BysB w bv d) (hcap : ∀ a l c, bv = .slice a l c → l ≤ c) :
 Calls Tryz.prog 33 #[.pointer (some ⟨g, 0, none⟩), bv] w fun e w' => DcE w.heap.size ts d 0 e w' ∧ Below w.heap.size w w' := by
 obtain ⟨u, hg, hS⟩ := hC
 obtain ⟨so, sc, rfl⟩ := hS.form
 generalize hsn : ts.length = sn at *
 replace hsn := hide hsn
 have R6 := hp2_0 w (.cells #[.int .u64 0, .slice none 0 0, .slice none 0 0] 78) (.cells #[.int .i64 0, .int .i64 0, .int .i64 0] 35)
 have R7 := hp2_1 w (.cells #[.int .u64 0, .slice none 0 0, .slice none 0 0] 78) (.cells #[.int .i64 0, .int .i64 0, .int .i64 0] 35)
 have hw : Below w.heap.size w ((w.alloc (.cells #[.int .u64 0, .slice none 0 0, .slice none 0 0] 78)).alloc (.cells #[.int .i64 0, .int .i64 0, .int .i64 0] 35)) := ((Below.refl _ _).alloc (Nat.le_refl _) _).alloc (by simp) _
 have lg := lt_of_row hg
 have l70 := lt_of_row R7
 have cg := hide (cell_of_row _ _ 0 _ _ _ (keep hw hg))
 have cD := hide (r_decodeF (by rw [hsn.out]; exact hfl) d bv 0 ⟨by decide, by decide⟩ ((w.alloc (.cells #[.int .u64 0, .slice none 0 0, .slice none 0 0] 78)).alloc (.cells #[.int .i64 0, .int .i64 0, .int .i64 0] 35)) (hS.keep hw) (hB.keep hw) hcap)
 obtain ⟨ba, bc, rfl⟩ := hB.form
 generalize hdl : d.length = dl at *
 replace hdl := hide hdl
 clear hS hB hcap hg
 go_enter Tryz.func33, Tryz.ntmps33
 go_upto_region 1 with (fail)
 generalize ((w.alloc (.cells #[.int .u64 0, .slice none 0 0, .slice none 0 0] 78)).alloc (.cells #[.int .i64 0, .int .i64 0, .int .i64 0] 35)) = w0 at *
 have cg0 := cg.out
 go_wp2_with (fail)
 refine cD.out.mono ?_
 rintro e_ w1 ⟨hD, hb⟩
 replace R6 := keep hb R6
 replace R7 := keep hb R7
 have szb := hb.size
 replace hw := Below.after hw hb
 clear hb cD cg cg0
 obtain ⟨R, hR⟩ : ∃ R, dec8 ts d 0 = R := ⟨_, rfl⟩
 unfold DcE at hD
 rw [hR] at hD
 cases R with
 | some x =>
  simp only at hD
  subst hD
  unfold frw at *
  replace hR := hide hR
  have oneA : (#[Value.int .u64 0, .slice none 0 0, .slice none 0 0] : Array Value).all (·.oneCell') = true := by simp [Value.oneCell']
  have oneB : (#[Value.int .i64 x.line, .int .i64 x.at_, .int .i64 x.why] : Array Value).all (·.oneCell') = true := by simp [Value.oneCell']
  have R7b := (setRow_other w1 (w.heap.size) (w.heap.size + 1) #[.int .u64 0, .slice none 0 0, .slice none 0 0] (by omega)).trans R7
  go_wp2_with (first | (refine wpList_store_row rfl 78 _ _ rfl (w.heap.size) #[.int .u64 0, .slice none 0 0, .slice none 0 0] rfl rfl 78 _ R6 infoV rfl oneA ?_) | (refine wpList_store_row rfl 35 _ _ rfl (w.heap.size + 1) #[.int .i64 x.line, .int .i64 x.at_, .int .i64 x.why] rfl rfl 35 _ R7b infoFt rfl oneB ?_) | fail)
  clear R7b
  replace R7 := (setRow_other w1 (w.heap.size) (w.heap.size + 1) #[.int .u64 0, .slice none 0 0, .slice none 0 0] (by omega)).trans R7
  replace R6 := setRow_heap w1 (w.heap.size) _ (#[.int .u64 0, .slice none 0 0, .slice none 0 0]) _ _ R6
  replace hw := below_setRow hw (show w.heap.size ≤ w.heap.size by omega) #[.int .u64 0, .slice none 0 0, .slice none 0 0]
  generalize hx3 : w1.setRow (w.heap.size) #[.int .u64 0, .slice none 0 0, .slice none 0 0] = x3 at *
  replace hx3 := hide hx3
  replace R6 := (setRow_other x3 (w.heap.size + 1) (w.heap.size) #[.int .i64 x.line, .int .i64 x.at_, .int .i64 x.why] (by omega)).trans R6
  replace R7 := setRow_heap x3 (w.heap.size + 1) _ (#[.int .i64 x.line, .int .i64 x.at_, .int .i64 x.why]) _ _ R7
  replace hw := below_setRow hw (show w.heap.size ≤ w.heap.size + 1 by omega) #[.int .i64 x.line, .int .i64 x.at_, .int .i64 x.why]
  exact bodyPost_ret (v := .tuple #[.agg #[.int .u64 0, .slice none 0 0, .slice none 0 0], .agg #[.int .i64 x.line, .int .i64 x.at_, .int .i64 x.why]]) (results_cell_cell Tryz.results33 _ _ (w.heap.size) (w.heap.size + 1) _ _ _ _ _ _ _ _ rfl R6 Tryz.underlying78 rfl infoV rfl R7 Tryz.underlying35 rfl infoFt) rfl ⟨by unfold DcE; rw [hR.out]; rfl, hw⟩
 | none =>
  obtain ⟨pv, fv, us, rfl, hO, hF⟩ := hD
  obtain ⟨po, pc, rfl⟩ := own_slice hO
  replace hR := hide hR
  have hmv : ∀ q o, w.heap.size + 1 < q → w1.heap[q]? = some o → ((w1.setRow (w.heap.size) #[.int .u64 0, .slice none 0 0, .slice po (dfs (dwh d)).length pc]).setRow (w.heap.size + 1) #[.int .i64 0, .int .i64 0, .int .i64 0]).heap[q]? = some o := fun q o hq ho => (setRow_other _ (w.heap.size + 1) q #[.int .i64 0, .int .i64 0, .int .i64 0] (by omega)).trans ((setRow_other w1 (w.heap.size) q #[.int .u64 0, .slice none 0 0, .slice po (dfs (dwh d)).length pc] (by omega)).trans ho)
  have hOF := own_down_row (own_move_row hO (fun q o hq ho => hmv q o (by omega) ho)) (show w.heap.size ≤ w0.heap.size by omega)
  have hFF := Fts.down (Fts.move hF (fun q o hq ho => hmv q o (by omega) ho)) (show w.heap.size ≤ w0.heap.size by omega)
  have hfin : Hid (DcE w.heap.size ts d 0 (.returned (.tuple #[.agg #[.int .u64 0, .slice none 0 0, .slice po (dfs (dwh d)).length pc], .agg #[.int .i64 0, .int .i64 0, .int .i64 0]])) ((w1.setRow (w.heap.size) #[.int .u64 0, .slice none 0 0, .slice po (dfs (dwh d)).length pc]).setRow (w.heap.size + 1) #[.int .i64 0, .int .i64 0, .int .i64 0])) := hide (by unfold DcE; rw [hR.out]; exact ⟨_, _, us, rfl, hOF, hFF⟩)
  clear hO hF hmv hOF hFF
  generalize (dfs (dwh d)).length = pn at *
  have oneA : (#[Value.int .u64 0, .slice none 0 0, .slice po pn pc] : Array Value).all (·.oneCell') = true := by simp [Value.oneCell']
  have oneB : (#[Value.int .i64 0, .int .i64 0, .int .i64 0] : Array Value).all (·.oneCell') = true := by simp [Value.oneCell']
  have R7b := (setRow_other w1 (w.heap.size) (w.heap.size + 1) #[.int .u64 0, .slice none 0 0, .slice po pn pc] (by omega)).trans R7
  go_wp2_with (first | (refine wpList_store_row rfl 78 _ _ rfl (w.heap.size) #[.int .u64 0, .slice none 0 0, .slice po pn pc] rfl rfl 78 _ R6 infoV rfl oneA ?_) | (refine wpList_store_row rfl 35 _ _ rfl (w.heap.size + 1) #[.int .i64 0, .int .i64 0, .int .i64 0] rfl rfl 35 _ R7b infoFt rfl oneB ?_) | fail)
  clear R7b
  replace R7 := (setRow_other w1 (w.heap.size) (w.heap.size + 1) #[.int .u64 0, .slice none 0 0, .slice po pn pc] (by omega)).trans R7
  replace R6 := setRow_heap w1 (w.heap.size) _ (#[.int .u64 0, .slice none 0 0, .slice po pn pc]) _ _ R6
  replace hw := below_setRow hw (show w.heap.size ≤ w.heap.size by omega) #[.int .u64 0, .slice none 0 0, .slice po pn pc]
  generalize hx3 : w1.setRow (w.heap.size) #[.int .u64 0, .slice none 0 0, .slice po pn pc] = x3 at *
  replace hx3 := hide hx3
  replace R6 := (setRow_other x3 (w.heap.size + 1) (w.heap.size) #[.int .i64 0, .int .i64 0, .int .i64 0] (by omega)).trans R6
  replace R7 := setRow_heap x3 (w.heap.size + 1) _ (#[.int .i64 0, .int .i64 0, .int .i64 0]) _ _ R7
  replace hw := below_setRow hw (show w.heap.size ≤ w.heap.size + 1 by omega) #[.int .i64 0, .int .i64 0, .int .i64 0]
  exact bodyPost_ret (v := .tuple #[.agg #[.int .u64 0, .slice none 0 0, .slice po pn pc], .agg #[.int .i64 0, .int .i64 0, .int .i64 0]]) (results_cell_cell Tryz.results33 _ _ (w.heap.size) (w.heap.size + 1) _ _ _ _ _ _ _ _ rfl R6 Tryz.underlying78 rfl infoV rfl R7 Tryz.underlying35 rfl infoFt) rfl ⟨hfin.out, hw⟩
end Go.Proofs.YtjoohgkgkabbpaaGreatDoor
namespace Go.Proofs.YtjoohgkgkabbpaaGreatDoor
set_option maxRecDepth 100000
open Go Go.RowKit Go.Sort
attribute [local go_sem] setCell_drewN alloc_drewN
theorem dcF_why : ∀ (ts : List Slt) (fs : List Fd) (a : Int) (x : Flt3), dcF ts fs a = some x → x.why ≠ 0
 | [], [], _, x, h => by cases h
 | [], _ :: _, _, x, h => by cases h; show (81 : Int) ≠ 0; decide
 | _ :: _, [], _, x, h => by cases h; show (81 : Int) ≠ 0; decide
 | t :: ts, f :: fs, a, x, h => by
  rw [dcF] at h
  cases hd : dsl t f a with
  | none => rw [hd] at h; exact dcF_why ts fs _ x h
  | some y =>
   rw [hd] at h
   cases h
   unfold dsl rdE at hd
   split at hd
   ·cases hd; show (81 : Int) ≠ 0; decide
   ·split at hd
    ·cases hd; show (82 : Int) ≠ 0; decide
    ·split at hd
     ·cases hd
     ·rename_i hE
      cases hd
      exact hE
theorem dec8_why {ts : List Slt} {d : List B} {a : Int} {x : Flt3} (h : dec8 ts d a = some x) : x.why ≠ 0 := by
 unfold dec8 at h
 split at h
 ·rename_i hE
  cases h
  exact hE
 ·exact dcF_why _ _ _ _ h
end Go.Proofs.YtjoohgkgkabbpaaGreatDoor
namespace Go.Proofs.YtjoohgkgkabbpaaGreatDoor
set_option maxRecDepth 100000
open Go Go.RowKit Go.Sort
attribute [local go_sem] setCell_drewN alloc_drewN
theorem wpList_eql {P : Program} {ops : Array Oper} {Q : Exit → Act → World → Prop} {w : World} {rest : List Oper} {o : Oper} {a : Act} (hw : Region.wanted o (yielded ops a.tmps) = true) (t u : TypeId) (x y : Operand) (ho : o.op = .binOp .eql t x y u) (X Y : Array Value) (hx : a.eval x = .agg X) (hy : a.eval y = .agg Y) (hg : P.eqGuardType P.depth t = false) (B : Bool) (he : (Op.equalIn 10000 t (.agg X) (.agg Y)).run P w = .ok B w) (h : wpList P ops Q rest (a.put o.dst (.bool B)) w) : wpList P ops Q (o :: rest) a w :=
 BigFrame.wpList_want hw fun _ hK => wp_world_op _ _ (run_eql_op t u x y ho X Y hx hy hg B he) (hK _ _ h)
def Fy (W : World) (base : Nat) (E : Value) (F : Array Value) : Prop := (E = .nilIface ∧ F = #[.int .i64 0, .int .i64 0, .int .i64 0]) ∨ ∃ g x, base ≤ g ∧ E = .iface 87 (.pointer (some ⟨g, 0, none⟩)) ∧ F = frw x ∧ x.why ≠ 0 ∧ W.heap[g]? = some (.cells (frw x) 35 (0, 0))
theorem Fy.keep {W V : World} {base : Nat} {E : Value} {F : Array Value} (h : Fy W base E F) (hb : Below W.heap.size W V) : Fy V base E F := by
 rcases h with h | ⟨g, x, h0, h1, h2, h3, h4⟩
 ·exact .inl h
 ·exact .inr ⟨g, x, h0, h1, h2, h3, Go.Proofs.YtjoohgkgkabbpaaGreatDoor.keep hb h4⟩
theorem Fy.row {W : World} {base : Nat} {E : Value} {F : Array Value} (h : Fy W base E F) {k : Nat} (hk : k < base) (C : Array Value) : Fy (W.setRow k C) base E F := by
 rcases h with h | ⟨g, x, h0, h1, h2, h3, h4⟩
 ·exact .inl h
 ·exact .inr ⟨g, x, h0, h1, h2, h3, (setRow_other W k g C (by omega)).trans h4⟩
theorem Fy.info {W : World} {base : Nat} {E : Value} {F : Array Value} (h : Fy W base E F) : (Tryz.prog.info? 35).map (·.size) = some F.size := by
 rcases h with ⟨_, rfl⟩ | ⟨g, x, _, _, rfl, _⟩
 ·kernel_rfl
 ·exact infoFrw x
theorem Fy.size {W : World} {base : Nat} {E : Value} {F : Array Value} (h : Fy W base E F) : F.size = 3 := by
 rcases h with ⟨_, rfl⟩ | ⟨g, x, _, _, rfl, _⟩ <;> rfl
theorem Fy.one {W : World} {base : Nat} {E : Value} {F : Array Value} (h : Fy W base E F) : F.all (·.oneCell') = true := by
 rcases h with ⟨_, rfl⟩ | ⟨g, x, _, _, rfl, _⟩
 ·simp [Value.oneCell']
 ·exact frw_one x
theorem l_faulty {base : Nat} {E : Value} {F : Array Value} (w : World) (hE : Ety w) (h : Fy w base E F) : Calls Tryz.prog 12 #[E, .agg F] w fun e w' => e = .returned (.bool true) ∧ Below w.heap.size w w' := by
 rcases h with ⟨rfl, rfl⟩ | ⟨g, x, _, rfl, rfl, h3, h4⟩
 ·exact l_faulty_nil 0 0 w
 ·exact l_faulty_hit x h3 g w hE h4
end Go.Proofs.YtjoohgkgkabbpaaGreatDoor
namespace Go.Proofs.YtjoohgkgkabbpaaGreatDoor
set_option maxRecDepth 100000
open Go Go.RowKit Go.Sort
attribute [local go_sem] setCell_drewN alloc_drewN
theorem esl1_big : 0 ≤ slL (esl 1) 10000 := by simp [esl, slL]
theorem least_top1 : Gives 75 #[.int .i64 1, .int .i64 1048580] (.int .i64 2097152) := by
 have h := r_least 1 (by decide) 1048580 (by decide)
 rw [show bkd (dg 1) 1048580 = 2097152 from bkd_v1] at h
 exact h
set_option maxRecDepth 100000 in
set_option maxHeartbeats 16000000 in
theorem r_shapeE1 (w : World) : Calls Tryz.prog 47 #[.int .i64 1] w fun e w' => ∃ x, e = .returned x ∧ (∃ q, x = .pointer (some ⟨q, 0, none⟩) ∧ w.heap.size ≤ q ∧ Rdc w' q (esl 1)) ∧ Below w.heap.size w w' := by
 have cL := hide least_top1
 go_enter Tryz.func47, Tryz.ntmps47
 go_wp2_with (fail)
 refine (cL.out w).mono ?_
 rintro e_ w1 ⟨rfl, hb1⟩
 clear cL
 have cK := r_Compile (W := w1.alloc (.cells #[.int .i64 1, .int .i64 1, .int .u64 1, .int .u64 1, .slice none 0 0, .int .i64 2, .int .i64 5, .int .u64 16, .int .u64 16, .slice none 0 0, .int .i64 3, .int .i64 5, .int .u64 60, .int .u64 60, .slice none 0 0, .int .i64 4, .int .i64 5, .int .u64 80, .int .u64 2097168, .slice none 0 0] 114)) (esl1_slo ⟨_, hp1_0 w1 _⟩) esl1_big (w1.alloc (.cells #[.int .i64 1, .int .i64 1, .int .u64 1, .int .u64 1, .slice none 0 0, .int .i64 2, .int .i64 5, .int .u64 16, .int .u64 16, .slice none 0 0, .int .i64 3, .int .i64 5, .int .u64 60, .int .u64 60, .slice none 0 0, .int .i64 4, .int .i64 5, .int .u64 80, .int .u64 2097168, .slice none 0 0] 114)) (Below.refl _ _)
 have hba : Below w1.heap.size w1 (w1.alloc (.cells #[.int .i64 1, .int .i64 1, .int .u64 1, .int .u64 1, .slice none 0 0, .int .i64 2, .int .i64 5, .int .u64 16, .int .u64 16, .slice none 0 0, .int .i64 3, .int .i64 5, .int .u64 60, .int .u64 60, .slice none 0 0, .int .i64 4, .int .i64 5, .int .u64 80, .int .u64 2097168, .slice none 0 0] 114)) := (Below.refl _ _).alloc (Nat.le_refl _) _
 have A1 := hide (Below.after hb1 hba)
 clear hba hb1
 replace cK := hide cK
 go_wp2_with (fail)
 refine cK.out.mono ?_
 rintro e_ w2 ⟨hb, hq⟩
 rcases hq with ⟨_, q, u, rfl, hq1, hq2, hq3⟩ | ⟨hq, _⟩
 ·have A2 := hide (show Rdc w2 q (esl 1) from ⟨u, hq2, hq3.slo⟩)
  have A3 := hide (Below.after A1.out hb)
  have hs := A1.out.size
  clear cK hq2 hq3 hb
  go_wp2_with (fail)
  go_ret
  exact ⟨_, rfl, ⟨q, rfl, Nat.le_trans hs hq1, A2.out⟩, A3.out⟩
 ·exact absurd esl1_vld hq
set_option maxRecDepth 100000 in
set_option maxHeartbeats 16000000 in
theorem r_holds1 (bn : Nat) (hbn : bn ≤ 1152921504606846000) : Gives 46 #[.int .i64 1, .int .i64 (bn : Int)] (.bool (decide (80 ≤ bn ∧ bn ≤ mo 1 ∧ bkd (dg 1) (bn - 16) = bn - 16))) := by
 intro w
 have cL := hide least_top1
 have hmo : mo 1 = 2097168 := rfl
 go_enter Tryz.func46, Tryz.ntmps46
 by_cases h1 : 80 ≤ bn
 ·obtain ⟨k, rfl⟩ : ∃ k, bn = k + 16 := ⟨bn - 16, by omega⟩
  have q : (((k + 16 : Nat) : Int) - 16) = (k : Int) := by omega
  have d1 : decide ((64 : Int) ≤ (k : Int)) = true := decide_eq_true (by omega)
  have cM := hide (r_least 1 (by decide) k (by omega))
  go_wp2_with (fail)
  refine (cL.out w).mono ?_
  rintro e_ w1 ⟨rfl, hb1⟩
  by_cases h2 : k ≤ 2097152
  ·have d2 : decide ((k : Int) ≤ 2097152) = true := decide_eq_true (by omega)
   go_wp2_with (fail)
   refine (cM.out w1).mono ?_
   rintro e_ w2 ⟨rfl, hb2⟩
   replace hb1 := Below.after hb1 hb2
   clear hb2 cM cL
   by_cases h3 : bkd (dg 1) k = k
   ·rw [h3]
    have hpost : decide (80 ≤ k + 16 ∧ k + 16 ≤ mo 1 ∧ bkd (dg 1) (k + 16 - 16) = k + 16 - 16) = true := decide_eq_true ⟨h1, by omega, by rw [Nat.add_sub_cancel]; exact h3⟩
    replace hpost := hide hpost
    clear h3
    go_wp2_with (fail)
    go_ret
    rw [hpost.out]
    exact ⟨rfl, hb1⟩
   ·have hpost : decide (80 ≤ k + 16 ∧ k + 16 ≤ mo 1 ∧ bkd (dg 1) (k + 16 - 16) = k + 16 - 16) = false := decide_eq_false (fun h => h3 (by have := h.2.2; rw [Nat.add_sub_cancel] at this; exact this))
    have d3 : ((bkd (dg 1) k : Int) == (k : Int)) = false := by
     have : ((bkd (dg 1) k : Nat) : Int) ≠ (k : Int) := by omega
     simpa using this
    replace hpost := hide hpost
    clear h3
    obtain ⟨b, hb⟩ : ∃ b, bkd (dg 1) k = b := ⟨_, rfl⟩
    rw [hb] at d3 ⊢
    replace hb := hide hb
    go_wp2_with (fail)
    go_ret
    rw [hpost.out]
    exact ⟨rfl, hb1⟩
  ·have d2 : decide ((k : Int) ≤ 2097152) = false := decide_eq_false (by omega)
   have hpost : decide (80 ≤ k + 16 ∧ k + 16 ≤ mo 1 ∧ bkd (dg 1) (k + 16 - 16) = k + 16 - 16) = false := decide_eq_false (by omega)
   replace hpost := hide hpost
   clear cM
   go_wp2_with (fail)
   go_ret
   rw [hpost.out]
   exact ⟨rfl, hb1⟩
 ·have d1 : decide ((64 : Int) ≤ (bn : Int) - 16) = false := decide_eq_false (by omega)
  have hpost : decide (80 ≤ bn ∧ bn ≤ mo 1 ∧ bkd (dg 1) (bn - 16) = bn - 16) = false := decide_eq_false (by omega)
  replace hpost := hide hpost
  go_wp2_with (fail)
  go_ret
  rw [hpost.out]
  exact ⟨rfl, Below.refl _ _⟩
theorem esl2_big : 0 ≤ slL (esl 2) 10000 := by simp [esl, slL]
theorem least_top2 : Gives 75 #[.int .i64 2, .int .i64 1048580] (.int .i64 1179648) := by
 have h := r_least 2 (by decide) 1048580 (by decide)
 rw [show bkd (dg 2) 1048580 = 1179648 from bkd_v2] at h
 exact h
set_option maxRecDepth 100000 in
set_option maxHeartbeats 16000000 in
theorem r_shapeE2 (w : World) : Calls Tryz.prog 47 #[.int .i64 2] w fun e w' => ∃ x, e = .returned x ∧ (∃ q, x = .pointer (some ⟨q, 0, none⟩) ∧ w.heap.size ≤ q ∧ Rdc w' q (esl 2)) ∧ Below w.heap.size w w' := by
 have cL := hide least_top2
 go_enter Tryz.func47, Tryz.ntmps47
 go_wp2_with (fail)
 refine (cL.out w).mono ?_
 rintro e_ w1 ⟨rfl, hb1⟩
 clear cL
 have cK := r_Compile (W := w1.alloc (.cells #[.int .i64 1, .int .i64 1, .int .u64 2, .int .u64 2, .slice none 0 0, .int .i64 2, .int .i64 5, .int .u64 16, .int .u64 16, .slice none 0 0, .int .i64 3, .int .i64 5, .int .u64 60, .int .u64 60, .slice none 0 0, .int .i64 4, .int .i64 5, .int .u64 80, .int .u64 1179664, .slice none 0 0] 114)) (esl2_slo ⟨_, hp1_0 w1 _⟩) esl2_big (w1.alloc (.cells #[.int .i64 1, .int .i64 1, .int .u64 2, .int .u64 2, .slice none 0 0, .int .i64 2, .int .i64 5, .int .u64 16, .int .u64 16, .slice none 0 0, .int .i64 3, .int .i64 5, .int .u64 60, .int .u64 60, .slice none 0 0, .int .i64 4, .int .i64 5, .int .u64 80, .int .u64 1179664, .slice none 0 0] 114)) (Below.refl _ _)
 have hba : Below w1.heap.size w1 (w1.alloc (.cells #[.int .i64 1, .int .i64 1, .int .u64 2, .int .u64 2, .slice none 0 0, .int .i64 2, .int .i64 5, .int .u64 16, .int .u64 16, .slice none 0 0, .int .i64 3, .int .i64 5, .int .u64 60, .int .u64 60, .slice none 0 0, .int .i64 4, .int .i64 5, .int .u64 80, .int .u64 1179664, .slice none 0 0] 114)) := (Below.refl _ _).alloc (Nat.le_refl _) _
 have A1 := hide (Below.after hb1 hba)
 clear hba hb1
 replace cK := hide cK
 go_wp2_with (fail)
 refine cK.out.mono ?_
 rintro e_ w2 ⟨hb, hq⟩
 rcases hq with ⟨_, q, u, rfl, hq1, hq2, hq3⟩ | ⟨hq, _⟩
 ·have A2 := hide (show Rdc w2 q (esl 2) from ⟨u, hq2, hq3.slo⟩)
  have A3 := hide (Below.after A1.out hb)
  have hs := A1.out.size
  clear cK hq2 hq3 hb
  go_wp2_with (fail)
  go_ret
  exact ⟨_, rfl, ⟨q, rfl, Nat.le_trans hs hq1, A2.out⟩, A3.out⟩
 ·exact absurd esl2_vld hq
set_option maxRecDepth 100000 in
set_option maxHeartbeats 16000000 in
theorem r_holds2 (bn : Nat) (hbn : bn ≤ 1152921504606846000) : Gives 46 #[.int .i64 2, .int .i64 (bn : Int)] (.bool (decide (80 ≤ bn ∧ bn ≤ mo 2 ∧ bkd (dg 2) (bn - 16) = bn - 16))) := by
 intro w
 have cL := hide least_top2
 have hmo : mo 2 = 1179664 := rfl
 go_enter Tryz.func46, Tryz.ntmps46
 by_cases h1 : 80 ≤ bn
 ·obtain ⟨k, rfl⟩ : ∃ k, bn = k + 16 := ⟨bn - 16, by omega⟩
  have q : (((k + 16 : Nat) : Int) - 16) = (k : Int) := by omega
  have d1 : decide ((64 : Int) ≤ (k : Int)) = true := decide_eq_true (by omega)
  have cM := hide (r_least 2 (by decide) k (by omega))
  go_wp2_with (fail)
  refine (cL.out w).mono ?_
  rintro e_ w1 ⟨rfl, hb1⟩
  by_cases h2 : k ≤ 1179648
  ·have d2 : decide ((k : Int) ≤ 1179648) = true := decide_eq_true (by omega)
   go_wp2_with (fail)
   refine (cM.out w1).mono ?_
   rintro e_ w2 ⟨rfl, hb2⟩
   replace hb1 := Below.after hb1 hb2
   clear hb2 cM cL
   by_cases h3 : bkd (dg 2) k = k
   ·rw [h3]
    have hpost : decide (80 ≤ k + 16 ∧ k + 16 ≤ mo 2 ∧ bkd (dg 2) (k + 16 - 16) = k + 16 - 16) = true := decide_eq_true ⟨h1, by omega, by rw [Nat.add_sub_cancel]; exact h3⟩
    replace hpost := hide hpost
    clear h3
    go_wp2_with (fail)
    go_ret
    rw [hpost.out]
    exact ⟨rfl, hb1⟩
   ·have hpost : decide (80 ≤ k + 16 ∧ k + 16 ≤ mo 2 ∧ bkd (dg 2) (k + 16 - 16) = k + 16 - 16) = false := decide_eq_false (fun h => h3 (by have := h.2.2; rw [Nat.add_sub_cancel] at this; exact this))
    have d3 : ((bkd (dg 2) k : Int) == (k : Int)) = false := by
     have : ((bkd (dg 2) k : Nat) : Int) ≠ (k : Int) := by omega
     simpa using this
    replace hpost := hide hpost
    clear h3
    obtain ⟨b, hb⟩ : ∃ b, bkd (dg 2) k = b := ⟨_, rfl⟩
    rw [hb] at d3 ⊢
    replace hb := hide hb
    go_wp2_with (fail)
    go_ret
    rw [hpost.out]
    exact ⟨rfl, hb1⟩
  ·have d2 : decide ((k : Int) ≤ 1179648) = false := decide_eq_false (by omega)
   have hpost : decide (80 ≤ k + 16 ∧ k + 16 ≤ mo 2 ∧ bkd (dg 2) (k + 16 - 16) = k + 16 - 16) = false := decide_eq_false (by omega)
   replace hpost := hide hpost
   clear cM
   go_wp2_with (fail)
   go_ret
   rw [hpost.out]
   exact ⟨rfl, hb1⟩
 ·have d1 : decide ((64 : Int) ≤ (bn : Int) - 16) = false := decide_eq_false (by omega)
  have hpost : decide (80 ≤ bn ∧ bn ≤ mo 2 ∧ bkd (dg 2) (bn - 16) = bn - 16) = false := decide_eq_false (by omega)
  replace hpost := hide hpost
  go_wp2_with (fail)
  go_ret
  rw [hpost.out]
  exact ⟨rfl, Below.refl _ _⟩
end Go.Proofs.YtjoohgkgkabbpaaGreatDoor
namespace Go.Proofs.YtjoohgkgkabbpaaGreatDoor
set_option maxRecDepth 100000
open Go Go.RowKit Go.Sort
attribute [local go_sem] setCell_drewN alloc_drewN
def fPk (o : Option Flt3) : Array Value := match o with
 | none => #[.int .i64 0, .int .i64 0, .int .i64 0]
 | some x => frw x
theorem BysB.bn {W : World} {a : Option Addr} {n c : Nat} {d : List B} (h : BysB W (.slice a n c) d) : n ≤ 140737488355000 := by
 obtain ⟨⟨ao, cap, e, _⟩, hl, _⟩ := h
 injection e with e1 e2 e3
 rw [bl_len] at e2
 omega
end Go.Proofs.YtjoohgkgkabbpaaGreatDoor

