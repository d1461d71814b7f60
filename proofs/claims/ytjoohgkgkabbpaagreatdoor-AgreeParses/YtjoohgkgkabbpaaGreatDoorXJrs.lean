import Derived.Test.YtjoohgkgkabbpaaGreatDoorXJrp
import Derived.Test.YtjoohgkgkabbpaaGreatDoorXJrh
import Derived.Test.YtjoohgkgkabbpaaGreatDoorXXdv
import Derived.OwnWalk
import Derived.Deep.Cut
import Derived.Deep.RegionHeld3
namespace Go.Proofs.YtjoohgkgkabbpaaGreatDoor
set_option maxRecDepth 100000
open Go Go.RowKit Go.Sort
attribute [local go_sem] setCell_drewN alloc_drewN
theorem run_storeVar_cell {P : Program} (w : World) (g off : Nat) (ty : TypeId) (v : Value) (ht : w.there g off 1) (hi : (P.info? ty).map (·.size) = some 1) (h1 : v.oneCell' = true) : (storeVar ty ⟨g, off, none⟩ v).run P w = .ok () (w.setCells g off [v]) := by
 have := run_storeCells_cells (P := P) g off [v] 0 w (fun j hj => by simpa using (ht j (by simpa using hj)).1) (fun j hj => by simpa using (ht j (by simpa using hj)).2) (fun u hu => by simp at hu; subst hu; exact h1)
 have hc : v.cells = #[v] := by cases v <;> first | rfl | cases h1
 cases hq : P.info? ty with
 | none => simp [hq] at hi
 | some i =>
  have hs : i.size = 1 := by simpa [hq] using hi
  simp only [Nat.add_zero] at this
  simp [storeVar, sizeOf, typeInfo, hq, hc, hs, this]
theorem wpList_store_cell {P : Program} {ops : Array Oper} {rest : List Oper} {o : Oper} {a : Act} {w : World} {Q : Exit → Act → World → Prop} (hgd : o.guard = none) (ty : TypeId) (x y : Operand) (ho : o.op = .store ty x y)
 (g off : Nat) (v : Value) (hx : a.eval x = .pointer (some ⟨g, off, none⟩)) (hy : a.eval y = v) (t : TypeId) (old new : Array Value) (hg : w.heap[g]? = some (.cells old t (0, 0))) (hlt : off < old.size) (hnew : old.setIfInBounds off v = new)
 (hi : (P.info? ty).map (·.size) = some 1) (h1 : v.oneCell' = true)
 (h : wpList P ops Q rest (a.put o.dst undef) (w.setRow g new)) : wpList P ops Q (o :: rest) a w := by
 refine wpList_plain hgd fun _ hK => ?_
 unfold Oper.wp execOp
 simp only [ho, hx, hy, Instr.storeAt, Instr.sureAddr, Sem.run_bind, Sem.run_pure, Result.andThen_ok, run_storeVar_cell w g off ty v (there_row hg hlt) hi h1]
 refine hK _ _ ?_
 rw [setCells_eq [v] off w old hg]
 have e : ovw old off [v] = new := hnew
 rw [e]
 exact h
theorem plE_ftF {t : Slt} {f : Fd} (hf : Fla t) (hty : f.ty = wtK t) (hfit : fits f) (da : Option Addr) (dc : Nat) : plE t ⟨f.num, da, f.dat.length, dc, none, 0, 0⟩ = ftF t f := by
 have hb : pbad (t.kind == 5) f.num f.dat.length 0 = false := by
  unfold fits at hfit
  rw [hty] at hfit
  unfold wtK at hfit
  unfold pbad
  rcases hf with q | q | q | q | q <;> rw [q] at hfit ⊢ <;> simp at hfit ⊢ <;> simp [hfit]
 unfold plE
 simp only [hb]
 rfl
def DcE (base : Nat) (ts : List Slt) (d : List B) (from_ : Int) (e : Ending) (w' : World) : Prop := match dec8 ts d from_ with
 | some x => e = .returned (.tuple #[.agg #[.int .u64 0, .slice none 0 0, .slice none 0 0], .agg (frw x)])
 | none => ∃ pv fv us, e = .returned (.tuple #[.agg #[.int .u64 0, .slice none 0 0, pv], .agg #[.int .i64 0, .int .i64 0, .int .i64 0]]) ∧ w'.ownsRow base 78 3 pv (dfs (dwh d)).length (vrk (dfs (dwh d)) us (dfs (dwh d)).length) ∧ Fts w' base fv us (dfs (dwh d))
theorem infoVS : (Tryz.prog.info? 76).map (·.size) = some 1 := by kernel_rfl
set_option maxRecDepth 100000 in
set_option maxHeartbeats 16000000 in
theorem r_decodeF {sv : Value} {ts : List Slt} (hfl : ∀ i, i < ts.length → Fla (gs ts i)) (d : List B) (bv : Value) (from_ : Int) (hfr : 0 ≤ from_ ∧ from_ ≤ 1099511627776) (w : World) (h : Slo w sv ts) (hB : BysB w bv d) (hcap : ∀ a l c, bv = .slice a l c → l ≤ c) :
 Calls Tryz.prog 64 #[sv, bv, .int .i64 from_] w fun e w' => DcE w.heap.size ts d from_ e w' ∧ Below w.heap.size w w' := by
 cases h with
 | mk ao cap ts us_ hl hc hnn h hs =>
  have hsf : ∀ i, i < ts.length → ∃ so sn sc, gvs us_ i = .slice so sn sc := fun i hi => by obtain ⟨a, c, e⟩ := (hs i hi).form; exact ⟨_, _, _, e⟩
  clear hs
  have oneV : (#[Value.int .u64 0, .slice none 0 0, .slice none 0 0] : Array Value).all (·.oneCell') = true := by simp [Value.oneCell']
  have R60 := hp2_0 w (.cells #[.int .u64 0, .slice none 0 0, .slice none 0 0] 78) (.cells #[.int .i64 0, .int .i64 0, .int .i64 0] 35)
  have R70 := hp2_1 w (.cells #[.int .u64 0, .slice none 0 0, .slice none 0 0] 78) (.cells #[.int .i64 0, .int .i64 0, .int .i64 0] 35)
  have hb0 : Below w.heap.size w ((w.alloc (.cells #[.int .u64 0, .slice none 0 0, .slice none 0 0] 78)).alloc (.cells #[.int .i64 0, .int .i64 0, .int .i64 0] 35)) := ((Below.refl _ _).alloc (Nat.le_refl _) _).alloc (by simp) _
  have cDe := hide (r_decode d ((w.alloc (.cells #[.int .u64 0, .slice none 0 0, .slice none 0 0] 78)).alloc (.cells #[.int .i64 0, .int .i64 0, .int .i64 0] 35)) bv (hB.keep hb0) hcap)
  obtain ⟨R, hR0⟩ : ∃ R, dec8 ts d from_ = R := ⟨_, rfl⟩
  have hR := hide hR0
  replace hb0 := hide hb0
  replace R60 := hide R60
  replace R70 := hide R70
  clear hB hcap
  go_enter Tryz.func64, Tryz.ntmps64
  go_upto_region 1 with (fail)
  generalize ((w.alloc (.cells #[.int .u64 0, .slice none 0 0, .slice none 0 0] 78)).alloc (.cells #[.int .i64 0, .int .i64 0, .int .i64 0] 35)) = w0 at *
  go_wp2_with (fail)
  refine cDe.out.mono ?_
  rintro e_ y ⟨fv, us, rfl, hFt, hb1⟩
  have R6y := hide (keep hb1 R60.out)
  have R7y := hide (keep hb1 R70.out)
  have l7y := lt_of_row R7y.out
  have l70 := lt_of_row R70.out
  have lzy := hb1.size
  have hw0 := hide (Below.after hb0.out hb1)
  clear cDe R60 R70 hb1 hb0
  by_cases hde : der (dwh d) = 0
  ·have hfok := dfs_oks d
   have hf64 := dfs_len d hde
   have hee := eer_ok.1 (dec_enc hde).1
   have hkn : ∀ i, i < (dfs (dwh d)).length → _ := fun i hi => ech_all _ 0 (by decide) hee.2.1 _ (gf_mem hi)
   have hebs := hee.2.2
   have eR : R = dcF (ts.drop 0) ((dfs (dwh d)).drop 0) (from_ + ((ebs ((dfs (dwh d)).take 0)).length : Int)) := by rw [← hR0, dec8, if_neg (by omega)]; simp [ebs]
   rw [hde]
   clear hR0 hee hde
   generalize hfs : dfs (dwh d) = fs at *
   replace hfs := hide hfs
   generalize dpl (dwh d) = pl at *
   obtain ⟨fo, fcap, rfl⟩ : ∃ fo fcap, fv = .slice fo fs.length fcap := by
    obtain ⟨_, ⟨rfl, h0⟩ | ⟨g, cap, cur, rfl, _⟩⟩ := hFt.1
    ·exact ⟨none, 0, by rw [h0]⟩
    ·exact ⟨_, _, rfl⟩
   replace hFt := hide hFt
   replace eR := hide eR
   have RVb0 := hide (hp1_0 y (.cells #[.int .u64 0, .slice none 0 0, .slice none 0 0] 78))
   have hby0 : Hid (Below y.heap.size y (y.alloc (.cells #[.int .u64 0, .slice none 0 0, .slice none 0 0] 78))) := hide ((Below.refl _ _).alloc (Nat.le_refl _) _)
   go_wp2_with (fail)
   generalize y.alloc (.cells #[.int .u64 0, .slice none 0 0, .slice none 0 0] 78) = yb at *
   go_loopw [13, 12, 14, 15, 16] (fun i at_ _ _ _ wr => ∃ (k : Nat) (pv : Value), k ≤ ts.length ∧ k ≤ fs.length ∧ i = .int .i64 k ∧ at_ = .int .i64 (from_ + ((ebs (fs.take k)).length : Int)) ∧ R = dcF (ts.drop k) (fs.drop k) (from_ + ((ebs (fs.take k)).length : Int)) ∧ wr.heap[y.heap.size]? = some (.cells #[.int .u64 0, .slice none 0 0, pv] 78 (0, 0)) ∧ wr.ownsRow (y.heap.size + 1) 78 3 pv k (vrk fs us k) ∧ Below y.heap.size y wr) (fun i _ _ _ _ _ => ts.length - (intOf i).toNat)
   case atStart => exact ⟨0, _, by omega, by omega, rfl, by simp [ebs], eR.out, RVb0.out, ⟨rfl, .inl ⟨rfl, rfl⟩⟩, hby0.out⟩
   case round =>
    clear eR RVb0 hby0
    obtain ⟨k, pv, hk, hkl, rfl, rfl, eR, RVb, hOp, hby⟩ := hrel
    by_cases hlt : k < ts.length
    ·have hdk : decide ((k : Int) < (ts.length : Int)) = true := by simp; omega
     obtain ⟨b, off, rfl, hbl, hra, hsok⟩ := h k hlt
     obtain ⟨so, sn, sc, hsu⟩ := hsf k hlt
     rw [hsu] at hra
     obtain ⟨pva, pvc, rfl⟩ := own_slice hOp
     have hbw : wr.heap.size ≤ wr.heap.size := Nat.le_refl _
     have szwr := hby.size
     have hpo := own_high_row hOp
     by_cases hkf : k = fs.length
     ·rw [dcF_short hlt hkf.symm] at eR
      subst hkf
      rw [List.take_length] at eR ⊢
      replace eR := hide eR
      generalize from_ + ((ebs fs).length : Int) = at_ at *
      have R6 := (hby.block (w.heap.size) (by omega)).trans R6y.out
      have R7 := (hby.block (w.heap.size + 1) (by omega)).trans R7y.out
      have hW := hw0.out.trans (hby.mono (by omega))
      clear hOp RVb hby hra hsok h hpo
      have oneF : (#[Value.int .i64 0, .int .i64 at_, .int .i64 81] : Array Value).all (·.oneCell') = true := by simp [Value.oneCell']
      have cA := hide (r_at (at_) 81 wr)
      replace hW := hide hW
      replace R6 := hide R6
      replace R7 := hide R7
      go_wp2_with (first | (refine wpList_build_want rfl 78 _ rfl [] rfl #[.int .u64 0, .slice none 0 0, .slice none 0 0] builtZvR ?_) | fail)
      refine cA.out.mono ?_
      rintro e_ x2 ⟨rfl, hb2⟩
      replace R6 := keep hb2 R6.out
      replace R7 := keep hb2 R7.out
      replace hW := Below.after hW.out hb2
      clear hb2 cA
      go_wp2_with (first | (refine wpList_store_row rfl 78 _ _ rfl (w.heap.size) #[.int .u64 0, .slice none 0 0, .slice none 0 0] rfl rfl 78 _ R6 infoV rfl oneV ?_) | (refine wpList_store_row rfl 35 _ _ rfl (w.heap.size + 1) #[.int .i64 0, .int .i64 at_, .int .i64 81] rfl rfl 35 _ ((setRow_other x2 (w.heap.size) (w.heap.size + 1) #[.int .u64 0, .slice none 0 0, .slice none 0 0] (by omega)).trans R7) infoFt rfl oneF ?_) | fail)
      replace R7 := (setRow_other x2 (w.heap.size) (w.heap.size + 1) #[.int .u64 0, .slice none 0 0, .slice none 0 0] (by omega)).trans R7
      replace R6 := setRow_heap x2 (w.heap.size) _ (#[.int .u64 0, .slice none 0 0, .slice none 0 0]) _ _ R6
      replace hW := below_setRow hW (show w.heap.size ≤ w.heap.size by omega) #[.int .u64 0, .slice none 0 0, .slice none 0 0]
      generalize x2.setRow (w.heap.size) #[.int .u64 0, .slice none 0 0, .slice none 0 0] = x3 at *
      replace R6 := (setRow_other x3 (w.heap.size + 1) (w.heap.size) #[.int .i64 0, .int .i64 at_, .int .i64 81] (by omega)).trans R6
      replace R7 := setRow_heap x3 (w.heap.size + 1) _ (#[.int .i64 0, .int .i64 at_, .int .i64 81]) _ _ R7
      replace hW := below_setRow hW (show w.heap.size ≤ w.heap.size + 1 by omega) #[.int .i64 0, .int .i64 at_, .int .i64 81]
      exact bodyPost_ret (v := .tuple #[.agg #[.int .u64 0, .slice none 0 0, .slice none 0 0], .agg #[.int .i64 0, .int .i64 at_, .int .i64 81]]) (results_cell_cell Tryz.results64 _ _ (w.heap.size) (w.heap.size + 1) _ _ _ _ _ _ _ _ rfl R6 Tryz.underlying78 rfl infoV rfl R7 Tryz.underlying35 rfl infoFt) rfl ⟨by unfold DcE; rw [hR.out, eR.out]; rfl, hW⟩
     ·have hkf2 : k < fs.length := by omega
      have hge : decide ((k : Int) ≥ (fs.length : Int)) = false := by simp; omega
      have hge2 : ¬ ((fs.length : Int) ≤ (k : Int)) := by omega
      rw [dcF_step hlt hkf2] at eR
      obtain ⟨fb, fcap2, efv, hfb1, hfb2, hfrow⟩ := (hFt.out).at hkf2
      cases efv
      obtain ⟨hk0, hk1, hk2, hfit⟩ := hkn k hkf2
      have hfo := hfok k hkf2
      obtain ⟨fda, fdc, hus⟩ := slen_own (hFt.out.2.2.1 k (by rw [hFt.out.2.1]; exact hkf2))
      have hat0 : 0 ≤ from_ + ((ebs (fs.take k)).length : Int) ∧ from_ + ((ebs (fs.take k)).length : Int) ≤ 1099515822080 := by
       have e := ebs_split fs k
       have e2 : (ebs fs).length = (ebs (fs.take k)).length + (ebs (fs.drop k)).length := by rw [e, List.length_append]
       omega
      have hat2 : 0 ≤ from_ + ((ebs (fs.take (k + 1))).length : Int) ∧ from_ + ((ebs (fs.take (k + 1))).length : Int) ≤ 1099515822080 := by
       have e := ebs_split fs (k + 1)
       have e2 : (ebs fs).length = (ebs (fs.take (k + 1))).length + (ebs (fs.drop (k + 1))).length := by rw [e, List.length_append]
       omega
      have hEN : from_ + ((ebs (fs.take k)).length : Int) + ((fby (gf fs k)).length : Int) = from_ + ((ebs (fs.take (k + 1))).length : Int) := by rw [ebs_take fs k hkf2]; omega
      have hvk : Hid (vrk fs us (k + 1) = vrk fs us k ++ [.int .u64 ((gf fs k).num : Int), gv us k, .slice none 0 0]) := hide rfl
      have cW_ := hide (fun V => r_wide (gf fs k) fda fdc hfo hk0 hk1 hk2 V)
      have cT := hide (show Gives 92 #[.int .i64 (gs ts k).kind] (.int .i64 (wtK (gs ts k))) by rw [← wtK_ty (hfl k hlt)]; exact r_typeOf _)
      have cPl := fun V => r_plainF (hfl k hlt) so sn sc ⟨(gf fs k).num, fda, (gf fs k).dat.length, fdc, none, 0, 0⟩ (by have := hfo.2.1; show (gf fs k).dat.length < _; omega) V
      have hpl := fun q => plE_ftF (hfl k hlt) q hfit fda fdc
      have hfl3 : (gf fs k).dat.length ≤ 4611686018427387904 := by have := hfo.2.1; omega
      have k8 : (gs ts k).kind ≠ 8 := by rcases hfl k hlt with q | q | q | q | q <;> omega
      have k9 : (gs ts k).kind ≠ 9 := by rcases hfl k hlt with q | q | q | q | q <;> omega
      have hsw := rangeS_keep2 (rangeS_keep2 hra hw0.out hbl) hby (by have := hw0.out.size; omega)
      have hfw := rangeS_keep2 hfrow hby hfb2
      rw [hEN] at eR
      unfold dsl rdE at eR
      rw [hus] at hfw hvk
      unfold srow at hsw
      unfold frow at hfw
      unfold slr vrv vrw at cPl
      clear hra hfrow hsok hsu hus h hk0 hk1 hk2 hfo hfit hfok hkn hsf
      generalize hat1g : from_ + ((ebs (fs.take (k + 1))).length : Int) = EN at *
      have hat1 : Hid (from_ + ((ebs (fs.take (k + 1))).length : Int) = EN) := hide hat1g
      clear hat1g
      generalize from_ + ((ebs (fs.take k)).length : Int) = at_ at *
      generalize ((fby (gf fs k)).length : Int) = FLN at *
      replace hEN := hide hEN
      generalize plE (gs ts k) _ = PE at *
      generalize ftF (gs ts k) (gf fs k) = E at *
      generalize (gf fs k).no = fno at *
      generalize (gf fs k).ty = fty at *
      generalize (gf fs k).num = fnum at *
      generalize (gf fs k).dat.length = fdl at *
      generalize wtK (gs ts k) = wk at *
      generalize (gs ts k).no = no at *
      generalize (gs ts k).kind = kd at *
      generalize ((gs ts k).least : Int) = l at *
      generalize ((gs ts k).most : Int) = mo at *
      have HS : (fun W : World => W.rangeAt b (off + k * 5) [.int .i64 no, .int .i64 kd, .int .u64 l, .int .u64 mo, .slice so sn sc] ∧ W.rangeAt fb (k * 4) [.int .i64 fno, .int .i64 fty, .int .u64 (fnum : Int), .slice fda fdl fdc]) wr := ⟨hsw, hfw⟩
      have hbs : b < y.heap.size := by have := hw0.out.size; omega
      clear hsw hfw
      go_upto_region 11 with (fail)
      have hi9 : 0 ≤ (k : Int) ∧ (k : Int) < (fs.length : Int) := by omega
      have hi8 : 0 ≤ (k : Int) ∧ (k : Int) < (ts.length : Int) := by omega
      by_cases hno : fno = no
      ·rw [if_neg (fun q => q hno)] at eR
       have bn1 : (fno != no) = false := by simpa using hno
       have bn2 : (fno == no) = true := by simpa using hno
       replace hno := hide hno
       have hbd : Below wr.heap.size wr wr.drew := below_drN (Below.refl _ _) 1
       have sz_a1 := hby.size
       replace RVb := keep hbd RVb
       replace hOp := own_keep_row hOp hbd
       have HS' : (fun W : World => W.rangeAt b (off + k * 5) [.int .i64 no, .int .i64 kd, .int .u64 l, .int .u64 mo, .slice so sn sc] ∧ W.rangeAt fb (k * 4) [.int .i64 fno, .int .i64 fty, .int .u64 (fnum : Int), .slice fda fdl fdc]) _ := ⟨rangeS_keep2 HS.1 hbd (by omega), rangeS_keep2 HS.2 hbd (by omega)⟩
       replace HS := HS'
       clear HS'
       replace hby := Below.after hby hbd
       replace hbw := Nat.le_trans hbw hbd.size
       clear hbd
       refine wp_region_held (S := fun W : World => W.rangeAt b (off + k * 5) [.int .i64 no, .int .i64 kd, .int .u64 l, .int .u64 mo, .slice so sn sc] ∧ W.rangeAt fb (k * 4) [.int .i64 fno, .int .i64 fty, .int .u64 (fnum : Int), .slice fda fdl fdc]) (by kernel_rfl) ?_
       change wpAnyH _ _ _ _ _ _ _ _ (World.drew _)
       generalize wr.drew = a1 at *
       refine wpAnyH_take (i := 0) (v := ?v86) rfl (by kernel_rfl) (by kernel_rfl) (by kernel_rfl) (fun _ _ _ h => h) (Or.inl ⟨by rfl, ?y86⟩) HS ?r86
       case y86 =>
        intro w_ hS_
        go_simp
        try with_reducible rfl
       simp only [Act.put, List.getElem_toArray, List.getElem_cons_zero, List.setIfInBounds_toArray, List.set_cons_succ, List.set_cons_zero]
       refine wpAnyH_take (i := 1) (v := ?v87) rfl (by kernel_rfl) (by kernel_rfl) (by kernel_rfl) (fun _ _ _ h => h) (Or.inl ⟨by rfl, ?y87⟩) HS ?r87
       case y87 =>
        intro w_ hS_
        go_simp
        try with_reducible rfl
       simp only [Act.put, List.getElem_toArray, List.getElem_cons_succ, List.getElem_cons_zero, List.setIfInBounds_toArray, List.set_cons_succ, List.set_cons_zero]
       refine wpAnyH_take (i := 2) (v := ?v88) rfl (by kernel_rfl) (by kernel_rfl) (by kernel_rfl) (fun _ _ _ h => h) (Or.inl ⟨by rfl, ?y88⟩) HS ?r88
       case y88 =>
        intro w_ hS_
        go_simp
        try with_reducible rfl
       simp only [Act.put, List.getElem_toArray, List.getElem_cons_succ, List.getElem_cons_zero, List.setIfInBounds_toArray, List.set_cons_succ, List.set_cons_zero]
       refine wpAnyH_take (i := 3) (v := ?v89) rfl (by kernel_rfl) (by kernel_rfl) (by kernel_rfl) (fun _ _ _ h => h) (Or.inl ⟨by rfl, ?y89⟩) HS ?r89
       case y89 =>
        intro w_ hS_
        go_simp
        try with_reducible rfl
       simp only [Act.put, List.getElem_toArray, List.getElem_cons_succ, List.getElem_cons_zero, List.setIfInBounds_toArray, List.set_cons_succ, List.set_cons_zero]
       refine wpAnyH_take (i := 4) (v := .int .i64 fno) rfl (by kernel_rfl) (by kernel_rfl) (by kernel_rfl) (fun _ _ _ h => h) (Or.inl ⟨by rfl, ?y90⟩) HS ?r90
       case y90 =>
        intro w_ hS_
        have c_ : w_.cell? ⟨fb, k * 4, none⟩ = some (.int .i64 fno) := hS_.2 0 _ rfl
        go_simp
        try with_reducible rfl
       simp only [Act.put, List.getElem_toArray, List.getElem_cons_succ, List.getElem_cons_zero, List.setIfInBounds_toArray, List.set_cons_succ, List.set_cons_zero]
       refine wpAnyH_take (i := 5) (v := ?v91) rfl (by kernel_rfl) (by kernel_rfl) (by kernel_rfl) (fun _ _ _ h => h) (Or.inl ⟨by rfl, ?y91⟩) HS ?r91
       case y91 =>
        intro w_ hS_
        go_simp
        try with_reducible rfl
       simp only [Act.put, List.getElem_toArray, List.getElem_cons_succ, List.getElem_cons_zero, List.setIfInBounds_toArray, List.set_cons_succ, List.set_cons_zero]
       refine wpAnyH_take (i := 6) (v := ?v92) rfl (by kernel_rfl) (by kernel_rfl) (by kernel_rfl) (fun _ _ _ h => h) (Or.inl ⟨by rfl, ?y92⟩) HS ?r92
       case y92 =>
        intro w_ hS_
        go_simp
        try with_reducible rfl
       simp only [Act.put, List.getElem_toArray, List.getElem_cons_succ, List.getElem_cons_zero, List.setIfInBounds_toArray, List.set_cons_succ, List.set_cons_zero]
       refine wpAnyH_take (i := 7) (v := ?v93) rfl (by kernel_rfl) (by kernel_rfl) (by kernel_rfl) (fun _ _ _ h => h) (Or.inl ⟨by rfl, ?y93⟩) HS ?r93
       case y93 =>
        intro w_ hS_
        go_simp
        try with_reducible rfl
       simp only [Act.put, List.getElem_toArray, List.getElem_cons_succ, List.getElem_cons_zero, List.setIfInBounds_toArray, List.set_cons_succ, List.set_cons_zero]
       refine wpAnyH_take (i := 8) (v := ?v94) rfl (by kernel_rfl) (by kernel_rfl) (by kernel_rfl) (fun _ _ _ h => h) (Or.inl ⟨by rfl, ?y94⟩) HS ?r94
       case y94 =>
        intro w_ hS_
        go_simp
        try with_reducible rfl
       simp only [Act.put, List.getElem_toArray, List.getElem_cons_succ, List.getElem_cons_zero, List.setIfInBounds_toArray, List.set_cons_succ, List.set_cons_zero]
       refine wpAnyH_take (i := 9) (v := .int .i64 no) rfl (by kernel_rfl) (by kernel_rfl) (by kernel_rfl) (fun _ _ _ h => h) (Or.inl ⟨by rfl, ?y95⟩) HS ?r95
       case y95 =>
        intro w_ hS_
        have c_ : w_.cell? ⟨b, off + k * 5, none⟩ = some (.int .i64 no) := hS_.1 0 _ rfl
        go_simp
        try with_reducible rfl
       simp only [Act.put, List.getElem_toArray, List.getElem_cons_succ, List.getElem_cons_zero, List.setIfInBounds_toArray, List.set_cons_succ, List.set_cons_zero]
       refine wpAnyH_take (i := 10) (v := .bool false) rfl (by kernel_rfl) (by kernel_rfl) (by kernel_rfl) (fun _ _ _ h => h) (Or.inl ⟨by rfl, ?y96⟩) HS ?r96
       case y96 =>
        intro w_ hS_
        go_simp
        try with_reducible rfl
       simp only [Act.put, List.getElem_toArray, List.getElem_cons_succ, List.getElem_cons_zero, List.setIfInBounds_toArray, List.set_cons_succ, List.set_cons_zero]
       refine wpAnyH_done (by kernel_rfl) ?_ _
       go_upto_region 13 with (fail)
       by_cases hty : fty = wk
       ·rw [if_neg (fun q => q hty)] at eR
        have bt1 : (fty != wk) = false := by simpa using hty
        have bt2 : (fty == wk) = true := by simpa using hty
        have hPE := (hpl hty).symm
        subst hPE
        replace cPl := hide cPl
        replace hty := hide hty
        clear hpl
        have hbd : Below a1.heap.size a1 a1.drew := below_drN (Below.refl _ _) 1
        have sz_a3 := hby.size
        replace RVb := keep hbd RVb
        replace hOp := own_keep_row hOp hbd
        have HS' : (fun W : World => W.rangeAt b (off + k * 5) [.int .i64 no, .int .i64 kd, .int .u64 l, .int .u64 mo, .slice so sn sc] ∧ W.rangeAt fb (k * 4) [.int .i64 fno, .int .i64 fty, .int .u64 (fnum : Int), .slice fda fdl fdc]) _ := ⟨rangeS_keep2 HS.1 hbd (by omega), rangeS_keep2 HS.2 hbd (by omega)⟩
        replace HS := HS'
        clear HS'
        replace hby := Below.after hby hbd
        replace hbw := Nat.le_trans hbw hbd.size
        clear hbd
        refine wp_region_held (S := fun W : World => W.rangeAt b (off + k * 5) [.int .i64 no, .int .i64 kd, .int .u64 l, .int .u64 mo, .slice so sn sc] ∧ W.rangeAt fb (k * 4) [.int .i64 fno, .int .i64 fty, .int .u64 (fnum : Int), .slice fda fdl fdc]) (by kernel_rfl) ?_
        change wpAnyH _ _ _ _ _ _ _ _ (World.drew _)
        generalize a1.drew = a3 at *
        refine wpAnyH_take (i := 0) (v := ?vb97) rfl (by kernel_rfl) (by kernel_rfl) (by kernel_rfl) (fun _ _ _ h => h) (Or.inl ⟨by rfl, ?yb97⟩) HS ?rb97
        case yb97 =>
         intro w_ hS_
         go_simp
         try with_reducible rfl
        simp only [Act.put, List.getElem_toArray, List.getElem_cons_zero, List.setIfInBounds_toArray, List.set_cons_succ, List.set_cons_zero]
        refine wpAnyH_take (i := 1) (v := ?vb98) rfl (by kernel_rfl) (by kernel_rfl) (by kernel_rfl) (fun _ _ _ h => h) (Or.inl ⟨by rfl, ?yb98⟩) HS ?rb98
        case yb98 =>
         intro w_ hS_
         go_simp
         try with_reducible rfl
        simp only [Act.put, List.getElem_toArray, List.getElem_cons_succ, List.getElem_cons_zero, List.setIfInBounds_toArray, List.set_cons_succ, List.set_cons_zero]
        refine wpAnyH_take (i := 2) (v := ?vb99) rfl (by kernel_rfl) (by kernel_rfl) (by kernel_rfl) (fun _ _ _ h => h) (Or.inl ⟨by rfl, ?yb99⟩) HS ?rb99
        case yb99 =>
         intro w_ hS_
         go_simp
         try with_reducible rfl
        simp only [Act.put, List.getElem_toArray, List.getElem_cons_succ, List.getElem_cons_zero, List.setIfInBounds_toArray, List.set_cons_succ, List.set_cons_zero]
        refine wpAnyH_take (i := 3) (v := ?vb100) rfl (by kernel_rfl) (by kernel_rfl) (by kernel_rfl) (fun _ _ _ h => h) (Or.inl ⟨by rfl, ?yb100⟩) HS ?rb100
        case yb100 =>
         intro w_ hS_
         go_simp
         try with_reducible rfl
        simp only [Act.put, List.getElem_toArray, List.getElem_cons_succ, List.getElem_cons_zero, List.setIfInBounds_toArray, List.set_cons_succ, List.set_cons_zero]
        refine wpAnyH_take (i := 4) (v := .int .i64 fty) rfl (by kernel_rfl) (by kernel_rfl) (by kernel_rfl) (fun _ _ _ h => h) (Or.inl ⟨by rfl, ?yb101⟩) HS ?rb101
        case yb101 =>
         intro w_ hS_
         have c_ : w_.cell? ⟨fb, k * 4 + 1, none⟩ = some (.int .i64 fty) := hS_.2 1 _ rfl
         go_simp
         try with_reducible rfl
        simp only [Act.put, List.getElem_toArray, List.getElem_cons_succ, List.getElem_cons_zero, List.setIfInBounds_toArray, List.set_cons_succ, List.set_cons_zero]
        refine wpAnyH_take (i := 5) (v := ?vb102) rfl (by kernel_rfl) (by kernel_rfl) (by kernel_rfl) (fun _ _ _ h => h) (Or.inl ⟨by rfl, ?yb102⟩) HS ?rb102
        case yb102 =>
         intro w_ hS_
         go_simp
         try with_reducible rfl
        simp only [Act.put, List.getElem_toArray, List.getElem_cons_succ, List.getElem_cons_zero, List.setIfInBounds_toArray, List.set_cons_succ, List.set_cons_zero]
        refine wpAnyH_take (i := 6) (v := ?vb103) rfl (by kernel_rfl) (by kernel_rfl) (by kernel_rfl) (fun _ _ _ h => h) (Or.inl ⟨by rfl, ?yb103⟩) HS ?rb103
        case yb103 =>
         intro w_ hS_
         go_simp
         try with_reducible rfl
        simp only [Act.put, List.getElem_toArray, List.getElem_cons_succ, List.getElem_cons_zero, List.setIfInBounds_toArray, List.set_cons_succ, List.set_cons_zero]
        refine wpAnyH_take (i := 7) (v := ?vb104) rfl (by kernel_rfl) (by kernel_rfl) (by kernel_rfl) (fun _ _ _ h => h) (Or.inl ⟨by rfl, ?yb104⟩) HS ?rb104
        case yb104 =>
         intro w_ hS_
         go_simp
         try with_reducible rfl
        simp only [Act.put, List.getElem_toArray, List.getElem_cons_succ, List.getElem_cons_zero, List.setIfInBounds_toArray, List.set_cons_succ, List.set_cons_zero]
        refine wpAnyH_take (i := 8) (v := ?vb105) rfl (by kernel_rfl) (by kernel_rfl) (by kernel_rfl) (fun _ _ _ h => h) (Or.inl ⟨by rfl, ?yb105⟩) HS ?rb105
        case yb105 =>
         intro w_ hS_
         go_simp
         try with_reducible rfl
        simp only [Act.put, List.getElem_toArray, List.getElem_cons_succ, List.getElem_cons_zero, List.setIfInBounds_toArray, List.set_cons_succ, List.set_cons_zero]
        refine wpAnyH_take (i := 9) (v := .int .i64 kd) rfl (by kernel_rfl) (by kernel_rfl) (by kernel_rfl) (fun _ _ _ h => h) (Or.inl ⟨by rfl, ?yb106⟩) HS ?rb106
        case yb106 =>
         intro w_ hS_
         have c_ : w_.cell? ⟨b, off + k * 5 + 1, none⟩ = some (.int .i64 kd) := hS_.1 1 _ rfl
         go_simp
         try with_reducible rfl
        simp only [Act.put, List.getElem_toArray, List.getElem_cons_succ, List.getElem_cons_zero, List.setIfInBounds_toArray, List.set_cons_succ, List.set_cons_zero]
        refine wpAnyH_one (k := 10) (fuel := 1) (by kernel_rfl) rfl (by kernel_rfl) (fun K_ hK => ?_)
        refine wp_call_ex (f := 92) (R := fun u w' => u = .int .i64 wk ∧ Below a3.heap.size a3 w') (by kernel_rfl) ((cT.out a3).mono fun _ _ h => ⟨_, h.1, rfl, h.2⟩) (fun v_ a4 hX_ => ?_)
        obtain ⟨rfl, hb_⟩ := hX_
        have sz_a4 := hby.size
        replace RVb := keep hb_ RVb
        replace hOp := own_keep_row hOp hb_
        have HS' : (fun W : World => W.rangeAt b (off + k * 5) [.int .i64 no, .int .i64 kd, .int .u64 l, .int .u64 mo, .slice so sn sc] ∧ W.rangeAt fb (k * 4) [.int .i64 fno, .int .i64 fty, .int .u64 (fnum : Int), .slice fda fdl fdc]) _ := ⟨rangeS_keep2 HS.1 hb_ (by omega), rangeS_keep2 HS.2 hb_ (by omega)⟩
        replace HS := HS'
        clear HS'
        replace hby := Below.after hby hb_
        replace hbw := Nat.le_trans hbw hb_.size
        clear hb_
        refine hK _ _ HS ?_
        simp only [Act.put, List.getElem_toArray, List.getElem_cons_succ, List.getElem_cons_zero, List.setIfInBounds_toArray, List.set_cons_succ, List.set_cons_zero]
        clear hK
        refine wpAnyH_take (i := 11) (v := .bool false) rfl (by kernel_rfl) (by kernel_rfl) (by kernel_rfl) (fun _ _ _ h => h) (Or.inl ⟨by rfl, ?yb107⟩) HS ?rb107
        case yb107 =>
         intro w_ hS_
         go_simp
         try with_reducible rfl
        simp only [Act.put, List.getElem_toArray, List.getElem_cons_succ, List.getElem_cons_zero, List.setIfInBounds_toArray, List.set_cons_succ, List.set_cons_zero]
        refine wpAnyH_done (by kernel_rfl) ?_ _
        have qb : 0 ≤ at_ + FLN ∧ at_ + FLN ≤ 1099515822080 := by rw [hEN.out]; exact hat2
        go_wp2_with (first | (refine wpList_load_mid rfl 72 _ rfl fb (k * 4) rfl _ _ HS.2 Tryz.underlying72 rfl infoFi ?_) | fail)
        refine (cW_.out a4).mono ?_
        rintro e_ a5 ⟨_, rfl, rfl, hb_⟩
        have sz_a5 := hby.size
        replace RVb := keep hb_ RVb
        replace hOp := own_keep_row hOp hb_
        have HS' : (fun W : World => W.rangeAt b (off + k * 5) [.int .i64 no, .int .i64 kd, .int .u64 l, .int .u64 mo, .slice so sn sc] ∧ W.rangeAt fb (k * 4) [.int .i64 fno, .int .i64 fty, .int .u64 (fnum : Int), .slice fda fdl fdc]) _ := ⟨rangeS_keep2 HS.1 hb_ (by omega), rangeS_keep2 HS.2 hb_ (by omega)⟩
        replace HS := HS'
        clear HS'
        replace hby := Below.after hby hb_
        replace hbw := Nat.le_trans hbw hb_.size
        clear hb_ cW_
        have q16 : IntKind.wrap .i64 (EN - (fdl : Int)) = EN - (fdl : Int) := by rw [IntKind.wrap_i64]; omega
        have qEN : Hid (at_ + FLN = EN) := hEN
        by_cases hE : E = 0
        ·rw [if_pos hE] at eR
         simp only at eR
         replace eR := hide eR
         have cV := hide (fun V => (r_value no kd l mo k8 k9 so sn sc fno fty fnum fda fdl fdc at_ (EN - (fdl : Int)) E V cPl.out).mono (fun e w' h => (by obtain ⟨v, h1, h2, h3⟩ := h; rw [if_pos hE] at h2; exact ⟨v, h1, h2, h3⟩ : ∃ v, e = .returned v ∧ v = .tuple #[.agg #[.int .u64 (fnum : Int), .slice fda fdl fdc, .slice none 0 0], .agg #[.int .i64 0, .int .i64 0, .int .i64 0]] ∧ Below V.heap.size V w')))
         have oneA : (#[Value.int .u64 (fnum : Int), .slice fda fdl fdc, .slice none 0 0] : Array Value).all (·.oneCell') = true := by simp [Value.oneCell']
         have oneB : (#[Value.int .i64 0, .int .i64 0, .int .i64 0] : Array Value).all (·.oneCell') = true := by simp [Value.oneCell']
         clear hE cPl
         go_upto_region 16 with (fail)
         rw [qEN.out]
         have hbd : Below a5.heap.size a5 a5.drew := below_drN (Below.refl _ _) 1
         have sz_a6 := hby.size
         replace RVb := keep hbd RVb
         replace hOp := own_keep_row hOp hbd
         have HS' : (fun W : World => W.rangeAt b (off + k * 5) [.int .i64 no, .int .i64 kd, .int .u64 l, .int .u64 mo, .slice so sn sc] ∧ W.rangeAt fb (k * 4) [.int .i64 fno, .int .i64 fty, .int .u64 (fnum : Int), .slice fda fdl fdc]) _ := ⟨rangeS_keep2 HS.1 hbd (by omega), rangeS_keep2 HS.2 hbd (by omega)⟩
         replace HS := HS'
         clear HS'
         replace hby := Below.after hby hbd
         replace hbw := Nat.le_trans hbw hbd.size
         clear hbd
         refine wp_region_held (S := fun W : World => W.rangeAt b (off + k * 5) [.int .i64 no, .int .i64 kd, .int .u64 l, .int .u64 mo, .slice so sn sc] ∧ W.rangeAt fb (k * 4) [.int .i64 fno, .int .i64 fty, .int .u64 (fnum : Int), .slice fda fdl fdc]) (by kernel_rfl) ?_
         change wpAnyH _ _ _ _ _ _ _ _ (World.drew _)
         generalize a5.drew = a6 at *
         refine wpAnyH_take (i := 0) (v := ?v10) rfl (by kernel_rfl) (by kernel_rfl) (by kernel_rfl) (fun _ _ _ h => h) (Or.inl ⟨by rfl, ?y10⟩) HS ?r10
         case y10 =>
          intro w_ hS_
          go_simp
          try with_reducible rfl
         simp only [Act.put, List.getElem_toArray, List.getElem_cons_zero, List.setIfInBounds_toArray, List.set_cons_succ, List.set_cons_zero]
         refine wpAnyH_take (i := 1) (v := ?v11) rfl (by kernel_rfl) (by kernel_rfl) (by kernel_rfl) (fun _ _ _ h => h) (Or.inl ⟨by rfl, ?y11⟩) HS ?r11
         case y11 =>
          intro w_ hS_
          go_simp
          try with_reducible rfl
         simp only [Act.put, List.getElem_toArray, List.getElem_cons_succ, List.getElem_cons_zero, List.setIfInBounds_toArray, List.set_cons_succ, List.set_cons_zero]
         refine wpAnyH_take (i := 2) (v := ?v12) rfl (by kernel_rfl) (by kernel_rfl) (by kernel_rfl) (fun _ _ _ h => h) (Or.inl ⟨by rfl, ?y12⟩) HS ?r12
         case y12 =>
          intro w_ hS_
          go_simp
          try with_reducible rfl
         simp only [Act.put, List.getElem_toArray, List.getElem_cons_succ, List.getElem_cons_zero, List.setIfInBounds_toArray, List.set_cons_succ, List.set_cons_zero]
         refine wpAnyH_take (i := 3) (v := .agg #[.int .i64 no, .int .i64 kd, .int .u64 l, .int .u64 mo, .slice so sn sc]) rfl (by kernel_rfl) (by kernel_rfl) (by kernel_rfl) (fun _ _ _ h => h) (yieldsIf_load_mid (by rfl) 114 _ rfl b (off + k * 5) rfl [.int .i64 no, .int .i64 kd, .int .u64 l, .int .u64 mo, .slice so sn sc] _ (fun _ h => h.1) Tryz.underlying114 rfl infoSlt) HS ?_
         simp only [Act.put, List.getElem_toArray, List.getElem_cons_succ, List.getElem_cons_zero, List.setIfInBounds_toArray, List.set_cons_succ, List.set_cons_zero]
         refine wpAnyH_take (i := 4) (v := ?v14) rfl (by kernel_rfl) (by kernel_rfl) (by kernel_rfl) (fun _ _ _ h => h) (Or.inl ⟨by rfl, ?y14⟩) HS ?r14
         case y14 =>
          intro w_ hS_
          go_simp
          try with_reducible rfl
         simp only [Act.put, List.getElem_toArray, List.getElem_cons_succ, List.getElem_cons_zero, List.setIfInBounds_toArray, List.set_cons_succ, List.set_cons_zero]
         refine wpAnyH_take (i := 5) (v := ?v15) rfl (by kernel_rfl) (by kernel_rfl) (by kernel_rfl) (fun _ _ _ h => h) (Or.inl ⟨by rfl, ?y15⟩) HS ?r15
         case y15 =>
          intro w_ hS_
          go_simp
          try with_reducible rfl
         simp only [Act.put, List.getElem_toArray, List.getElem_cons_succ, List.getElem_cons_zero, List.setIfInBounds_toArray, List.set_cons_succ, List.set_cons_zero]
         refine wpAnyH_take (i := 6) (v := ?v16) rfl (by kernel_rfl) (by kernel_rfl) (by kernel_rfl) (fun _ _ _ h => h) (Or.inl ⟨by rfl, ?y16⟩) HS ?r16
         case y16 =>
          intro w_ hS_
          go_simp
          try with_reducible rfl
         simp only [Act.put, List.getElem_toArray, List.getElem_cons_succ, List.getElem_cons_zero, List.setIfInBounds_toArray, List.set_cons_succ, List.set_cons_zero]
         refine wpAnyH_take (i := 7) (v := .agg #[.int .i64 fno, .int .i64 fty, .int .u64 (fnum : Int), .slice fda fdl fdc]) rfl (by kernel_rfl) (by kernel_rfl) (by kernel_rfl) (fun _ _ _ h => h) (yieldsIf_load_mid (by rfl) 72 _ rfl fb (k * 4) rfl [.int .i64 fno, .int .i64 fty, .int .u64 (fnum : Int), .slice fda fdl fdc] _ (fun _ h => h.2) Tryz.underlying72 rfl infoFi) HS ?_
         simp only [Act.put, List.getElem_toArray, List.getElem_cons_succ, List.getElem_cons_zero, List.setIfInBounds_toArray, List.set_cons_succ, List.set_cons_zero]
         refine wpAnyH_take (i := 8) (v := ?v18) rfl (by kernel_rfl) (by kernel_rfl) (by kernel_rfl) (fun _ _ _ h => h) (Or.inl ⟨by rfl, ?y18⟩) HS ?r18
         case y18 =>
          intro w_ hS_
          go_simp
          try with_reducible rfl
         simp only [Act.put, List.getElem_toArray, List.getElem_cons_succ, List.getElem_cons_zero, List.setIfInBounds_toArray, List.set_cons_succ, List.set_cons_zero]
         refine wpAnyH_take (i := 9) (v := ?v19) rfl (by kernel_rfl) (by kernel_rfl) (by kernel_rfl) (fun _ _ _ h => h) (Or.inl ⟨by rfl, ?y19⟩) HS ?r19
         case y19 =>
          intro w_ hS_
          go_simp
          try with_reducible rfl
         simp only [Act.put, List.getElem_toArray, List.getElem_cons_succ, List.getElem_cons_zero, List.setIfInBounds_toArray, List.set_cons_succ, List.set_cons_zero]
         refine wpAnyH_take (i := 10) (v := ?v20) rfl (by kernel_rfl) (by kernel_rfl) (by kernel_rfl) (fun _ _ _ h => h) (Or.inl ⟨by rfl, ?y20⟩) HS ?r20
         case y20 =>
          intro w_ hS_
          go_simp
          try with_reducible rfl
         simp only [Act.put, List.getElem_toArray, List.getElem_cons_succ, List.getElem_cons_zero, List.setIfInBounds_toArray, List.set_cons_succ, List.set_cons_zero]
         refine wpAnyH_take (i := 11) (v := ?v21) rfl (by kernel_rfl) (by kernel_rfl) (by kernel_rfl) (fun _ _ _ h => h) (Or.inl ⟨by rfl, ?y21⟩) HS ?r21
         case y21 =>
          intro w_ hS_
          go_simp
          try with_reducible rfl
         simp only [Act.put, List.getElem_toArray, List.getElem_cons_succ, List.getElem_cons_zero, List.setIfInBounds_toArray, List.set_cons_succ, List.set_cons_zero]
         refine wpAnyH_take (i := 12) (v := ?v22) rfl (by kernel_rfl) (by kernel_rfl) (by kernel_rfl) (fun _ _ _ h => h) (Or.inl ⟨by rfl, ?y22⟩) HS ?r22
         case y22 =>
          intro w_ hS_
          go_simp
          try with_reducible rfl
         simp only [Act.put, List.getElem_toArray, List.getElem_cons_succ, List.getElem_cons_zero, List.setIfInBounds_toArray, List.set_cons_succ, List.set_cons_zero]
         refine wpAnyH_take (i := 13) (v := ?v23) rfl (by kernel_rfl) (by kernel_rfl) (by kernel_rfl) (fun _ _ _ h => h) (Or.inl ⟨by rfl, ?y23⟩) HS ?r23
         case y23 =>
          intro w_ hS_
          go_simp
          try with_reducible rfl
         simp only [Act.put, List.getElem_toArray, List.getElem_cons_succ, List.getElem_cons_zero, List.setIfInBounds_toArray, List.set_cons_succ, List.set_cons_zero]
         refine wpAnyH_take (i := 14) (v := .slice fda fdl fdc) rfl (by kernel_rfl) (by kernel_rfl) (by kernel_rfl) (fun _ _ _ h => h) (Or.inl ⟨by rfl, ?y24⟩) HS ?r24
         case y24 =>
          intro w_ hS_
          have c_ : w_.cell? ⟨fb, k * 4 + 3, none⟩ = some (.slice fda fdl fdc) := hS_.2 3 _ rfl
          go_simp
          try with_reducible rfl
         simp only [Act.put, List.getElem_toArray, List.getElem_cons_succ, List.getElem_cons_zero, List.setIfInBounds_toArray, List.set_cons_succ, List.set_cons_zero]
         refine wpAnyH_take (i := 15) (v := ?v25) rfl (by kernel_rfl) (by kernel_rfl) (by kernel_rfl) (fun _ _ _ h => h) (Or.inl ⟨by rfl, ?y25⟩) HS ?r25
         case y25 =>
          intro w_ hS_
          go_simp
          try with_reducible rfl
         simp only [Act.put, List.getElem_toArray, List.getElem_cons_succ, List.getElem_cons_zero, List.setIfInBounds_toArray, List.set_cons_succ, List.set_cons_zero]
         refine wpAnyH_take (i := 16) (v := .int .i64 (EN - (fdl : Int))) rfl (by kernel_rfl) (by kernel_rfl) (by kernel_rfl) (fun _ _ _ h => h) (Or.inl ⟨by rfl, ?y26⟩) HS ?r26
         case y26 =>
          intro w_ hS_
          go_simp
          try with_reducible rfl
         simp only [Act.put, List.getElem_toArray, List.getElem_cons_succ, List.getElem_cons_zero, List.setIfInBounds_toArray, List.set_cons_succ, List.set_cons_zero]
         refine wpAnyH_three (j := 17) (k := 21) (l := 22) (fuel := 7) (by kernel_rfl) rfl rfl rfl (by kernel_rfl) (by kernel_rfl) (by kernel_rfl) (fun K_ hK_ => ?_) (fun K_ hK_ => ?_) (fun K_ hK_ => ?_)
         ·refine wp_call_ex (f := 94) (R := fun u w' => u = .tuple #[.agg #[.int .u64 (fnum : Int), .slice fda fdl fdc, .slice none 0 0], .agg #[.int .i64 0, .int .i64 0, .int .i64 0]] ∧ Below a6.heap.size a6 w') (by kernel_rfl) (cV.out a6) (fun v_ q1 hX_ => ?_)
          obtain ⟨rfl, hb_⟩ := hX_
          have sz_q1 := hby.size
          replace RVb := keep hb_ RVb
          replace hOp := own_keep_row hOp hb_
          have HS' : (fun W : World => W.rangeAt b (off + k * 5) [.int .i64 no, .int .i64 kd, .int .u64 l, .int .u64 mo, .slice so sn sc] ∧ W.rangeAt fb (k * 4) [.int .i64 fno, .int .i64 fty, .int .u64 (fnum : Int), .slice fda fdl fdc]) _ := ⟨rangeS_keep2 HS.1 hb_ (by omega), rangeS_keep2 HS.2 hb_ (by omega)⟩
          replace HS := HS'
          clear HS'
          replace hby := Below.after hby hb_
          replace hbw := Nat.le_trans hbw hb_.size
          clear hb_
          refine hK_ _ _ HS ?_
          simp only [Act.put, List.getElem_toArray, List.getElem_cons_succ, List.getElem_cons_zero, List.setIfInBounds_toArray, List.set_cons_succ, List.set_cons_zero]
          clear hK_
          refine wpAnyH_take (i := 18) (v := ?v27) rfl (by kernel_rfl) (by kernel_rfl) (by kernel_rfl) (fun _ _ _ h => h) (Or.inl ⟨by rfl, ?y27⟩) HS ?r27
          case y27 =>
           intro w_ hS_
           go_simp
           try with_reducible rfl
          simp only [Act.put, List.getElem_toArray, List.getElem_cons_succ, List.getElem_cons_zero, List.setIfInBounds_toArray, List.set_cons_succ, List.set_cons_zero]
          refine wpAnyH_take (i := 19) (v := ?v28) rfl (by kernel_rfl) (by kernel_rfl) (by kernel_rfl) (fun _ _ _ h => h) (Or.inl ⟨by rfl, ?y28⟩) HS ?r28
          case y28 =>
           intro w_ hS_
           go_simp
           try with_reducible rfl
          simp only [Act.put, List.getElem_toArray, List.getElem_cons_succ, List.getElem_cons_zero, List.setIfInBounds_toArray, List.set_cons_succ, List.set_cons_zero]
          refine wpAnyH_take (i := 20) (v := ?v29) rfl (by kernel_rfl) (by kernel_rfl) (by kernel_rfl) (fun _ _ _ h => h) (Or.inl ⟨by rfl, ?y29⟩) HS ?r29
          case y29 =>
           intro w_ hS_
           go_simp
           try with_reducible rfl
          simp only [Act.put, List.getElem_toArray, List.getElem_cons_succ, List.getElem_cons_zero, List.setIfInBounds_toArray, List.set_cons_succ, List.set_cons_zero]
          refine wpAnyH_two (j := 21) (k := 22) (fuel := 3) (by kernel_rfl) rfl rfl (by kernel_rfl) (by kernel_rfl) (fun K_ hK_ => ?_) (fun K_ hK_ => ?_)
          ·refine wp_world_op (.pointer (some ⟨q1.heap.size, 0, none⟩)) (q1.alloc (.cells #[.int .u64 0, .slice none 0 0, .slice none 0 0] 78)) (by kernel_rfl) ?_
           have hb_ : Below q1.heap.size q1 (q1.alloc (.cells #[.int .u64 0, .slice none 0 0, .slice none 0 0] 78)) := (Below.refl _ _).alloc (Nat.le_refl _) _
           have lo_gX : wr.heap.size ≤ q1.heap.size := hbw
           have lb_gX : y.heap.size ≤ q1.heap.size := hby.size
           have lV_gX := lt_of_row RVb
           have RX := hp1_0 q1 (.cells #[.int .u64 0, .slice none 0 0, .slice none 0 0] 78)
           have sz_q2 := hby.size
           replace RVb := keep hb_ RVb
           replace hOp := own_keep_row hOp hb_
           have HS' : (fun W : World => W.rangeAt b (off + k * 5) [.int .i64 no, .int .i64 kd, .int .u64 l, .int .u64 mo, .slice so sn sc] ∧ W.rangeAt fb (k * 4) [.int .i64 fno, .int .i64 fty, .int .u64 (fnum : Int), .slice fda fdl fdc]) _ := ⟨rangeS_keep2 HS.1 hb_ (by omega), rangeS_keep2 HS.2 hb_ (by omega)⟩
           replace HS := HS'
           clear HS'
           replace hby := Below.after hby hb_
           replace hbw := Nat.le_trans hbw hb_.size
           clear hb_
           refine hK_ _ _ HS ?_
           simp only [Act.put, List.getElem_toArray, List.getElem_cons_succ, List.getElem_cons_zero, List.setIfInBounds_toArray, List.set_cons_succ, List.set_cons_zero]
           clear hK_
           generalize q1.alloc (.cells #[.int .u64 0, .slice none 0 0, .slice none 0 0] 78) = q2 at *
           generalize q1.heap.size = gX at *
           refine wpAnyH_one (k := 22) (fuel := 2) (by kernel_rfl) rfl (by kernel_rfl) (fun K_ hK_ => ?_)
           refine wp_world_op (.pointer (some ⟨q2.heap.size, 0, none⟩)) (q2.alloc (.cells #[.int .i64 0, .int .i64 0, .int .i64 0] 35)) (by kernel_rfl) ?_
           have hb_ : Below q2.heap.size q2 (q2.alloc (.cells #[.int .i64 0, .int .i64 0, .int .i64 0] 35)) := (Below.refl _ _).alloc (Nat.le_refl _) _
           have lo_gY : wr.heap.size ≤ q2.heap.size := hbw
           have lb_gY : y.heap.size ≤ q2.heap.size := hby.size
           have lt_RX_gY := lt_of_row RX
           have lV_gY := lt_of_row RVb
           have RY := hp1_0 q2 (.cells #[.int .i64 0, .int .i64 0, .int .i64 0] 35)
           replace RX := keep hb_ RX
           have sz_q3 := hby.size
           replace RVb := keep hb_ RVb
           replace hOp := own_keep_row hOp hb_
           have HS' : (fun W : World => W.rangeAt b (off + k * 5) [.int .i64 no, .int .i64 kd, .int .u64 l, .int .u64 mo, .slice so sn sc] ∧ W.rangeAt fb (k * 4) [.int .i64 fno, .int .i64 fty, .int .u64 (fnum : Int), .slice fda fdl fdc]) _ := ⟨rangeS_keep2 HS.1 hb_ (by omega), rangeS_keep2 HS.2 hb_ (by omega)⟩
           replace HS := HS'
           clear HS'
           replace hby := Below.after hby hb_
           replace hbw := Nat.le_trans hbw hb_.size
           clear hb_
           refine hK_ _ _ HS ?_
           simp only [Act.put, List.getElem_toArray, List.getElem_cons_succ, List.getElem_cons_zero, List.setIfInBounds_toArray, List.set_cons_succ, List.set_cons_zero]
           clear hK_
           generalize q2.alloc (.cells #[.int .i64 0, .int .i64 0, .int .i64 0] 35) = q3 at *
           generalize q2.heap.size = gY at *
           refine wpAnyH_one (k := 23) (fuel := 1) (by kernel_rfl) rfl (by kernel_rfl) (fun K_ hK_ => ?_)
           refine wp_store_row 78 _ _ rfl gX #[.int .u64 (fnum : Int), .slice fda fdl fdc, .slice none 0 0] rfl rfl 78 _ RX infoV rfl oneA ?_
           replace RY := (setRow_other q3 gX gY #[.int .u64 (fnum : Int), .slice fda fdl fdc, .slice none 0 0] (by omega)).trans RY
           replace RVb := (setRow_other q3 gX y.heap.size #[.int .u64 (fnum : Int), .slice fda fdl fdc, .slice none 0 0] (by omega)).trans RVb
           replace hOp := own_but hOp (fun q hq => setRow_other q3 gX q #[.int .u64 (fnum : Int), .slice fda fdl fdc, .slice none 0 0] (by have := (hpo q hq).2; omega))
           have HS' : (fun W : World => W.rangeAt b (off + k * 5) [.int .i64 no, .int .i64 kd, .int .u64 l, .int .u64 mo, .slice so sn sc] ∧ W.rangeAt fb (k * 4) [.int .i64 fno, .int .i64 fty, .int .u64 (fnum : Int), .slice fda fdl fdc]) (q3.setRow gX #[.int .u64 (fnum : Int), .slice fda fdl fdc, .slice none 0 0]) := ⟨mv_range HS.1 (setRow_other q3 gX b #[.int .u64 (fnum : Int), .slice fda fdl fdc, .slice none 0 0] (by omega)), mv_range HS.2 (setRow_other q3 gX fb #[.int .u64 (fnum : Int), .slice fda fdl fdc, .slice none 0 0] (by omega))⟩
           replace HS := HS'
           clear HS'
           replace RX := setRow_heap q3 gX _ (#[.int .u64 (fnum : Int), .slice fda fdl fdc, .slice none 0 0]) _ _ RX
           replace hby := below_setRow hby (show y.heap.size ≤ gX by omega) #[.int .u64 (fnum : Int), .slice fda fdl fdc, .slice none 0 0]
           have hse : (q3.setRow gX #[.int .u64 (fnum : Int), .slice fda fdl fdc, .slice none 0 0]).heap.size = q3.heap.size := by simp [World.setRow]
           rw [← hse] at hbw
           clear hse
           refine hK_ _ _ HS ?_
           simp only [Act.put, List.getElem_toArray, List.getElem_cons_succ, List.getElem_cons_zero]
           clear hK_
           generalize q3.setRow gX #[.int .u64 (fnum : Int), .slice fda fdl fdc, .slice none 0 0] = q4 at *
           refine wpAnyH_one (k := 24) (fuel := 0) (by kernel_rfl) rfl (by kernel_rfl) (fun K_ hK_ => ?_)
           refine wp_store_row 35 _ _ rfl gY #[.int .i64 0, .int .i64 0, .int .i64 0] rfl rfl 35 _ RY infoFt rfl oneB ?_
           replace RX := (setRow_other q4 gY gX #[.int .i64 0, .int .i64 0, .int .i64 0] (by omega)).trans RX
           replace RVb := (setRow_other q4 gY y.heap.size #[.int .i64 0, .int .i64 0, .int .i64 0] (by omega)).trans RVb
           replace hOp := own_but hOp (fun q hq => setRow_other q4 gY q #[.int .i64 0, .int .i64 0, .int .i64 0] (by have := (hpo q hq).2; omega))
           have HS' : (fun W : World => W.rangeAt b (off + k * 5) [.int .i64 no, .int .i64 kd, .int .u64 l, .int .u64 mo, .slice so sn sc] ∧ W.rangeAt fb (k * 4) [.int .i64 fno, .int .i64 fty, .int .u64 (fnum : Int), .slice fda fdl fdc]) (q4.setRow gY #[.int .i64 0, .int .i64 0, .int .i64 0]) := ⟨mv_range HS.1 (setRow_other q4 gY b #[.int .i64 0, .int .i64 0, .int .i64 0] (by omega)), mv_range HS.2 (setRow_other q4 gY fb #[.int .i64 0, .int .i64 0, .int .i64 0] (by omega))⟩
           replace HS := HS'
           clear HS'
           replace RY := setRow_heap q4 gY _ (#[.int .i64 0, .int .i64 0, .int .i64 0]) _ _ RY
           replace hby := below_setRow hby (show y.heap.size ≤ gY by omega) #[.int .i64 0, .int .i64 0, .int .i64 0]
           have hse : (q4.setRow gY #[.int .i64 0, .int .i64 0, .int .i64 0]).heap.size = q4.heap.size := by simp [World.setRow]
           rw [← hse] at hbw
           clear hse
           refine hK_ _ _ HS ?_
           simp only [Act.put, List.getElem_toArray, List.getElem_cons_succ, List.getElem_cons_zero]
           clear hK_
           generalize q4.setRow gY #[.int .i64 0, .int .i64 0, .int .i64 0] = q5 at *
           refine wpAnyH_done (by kernel_rfl) ?_ _
           have cW := cell_of_row _ _ 2 _ _ _ RY
           have cP := cell_of_row _ _ 2 _ _ _ RVb
           have NVc := new_cells4 q5 #[.int .u64 (fnum : Int), .slice fda fdl fdc, .slice none 0 0] 78
           have hb_ : Below q5.heap.size q5 (q5.alloc (.cells #[.int .u64 (fnum : Int), .slice fda fdl fdc, .slice none 0 0] 78)) := (Below.refl _ _).alloc (Nat.le_refl _) _
           have lgV := lt_of_row RVb
           have R1 := keep hb_ RVb
           have O1 := own_keep_row hOp hb_
           have B1 := Below.after hby hb_
           replace R1 := hide R1
           replace O1 := hide O1
           replace B1 := hide B1
           clear hb_ HS hOp hby RVb
           obtain ⟨iV, hiV, hiz, his, hib⟩ := infoVI
           go_wp2_with (first | (refine wpList_load_want rfl 78 _ rfl gX rfl 78 #[.int .u64 (fnum : Int), .slice fda fdl fdc, .slice none 0 0] (0, 0) _ RX Tryz.underlying78 rfl infoV ?_) | (at_builtin; refine wpList_plain rfl fun K_ hKp => wp_append_nx _ _ 76 rfl (y.heap.size + 1) 78 iV (.agg #[.int .u64 0, .slice none 0 0, .slice none 0 0]) 3 56 Tryz.underlying76 hiV hiz his hib rfl (by decide) _ k (vrk fs us k) rfl O1.out ⟨q5.heap.size, 0, none⟩ 1 1 [.int .u64 (fnum : Int), .slice fda fdl fdc, .slice none 0 0] rfl rfl NVc (fun x hx => by simp at hx; rcases hx with rfl | rfl | rfl <;> rfl) (by unfold maxLen; omega) (by omega) (by have := B1.out.size; simp; omega) ?_) | fail)
           intro pv' x4 hO4 hgr hnx
           refine hKp _ _ ?_
           clear hKp hnx
           have R4 := (hgr.block y.heap.size (by simp; omega) (fun e => by have := (hpo y.heap.size e.symm).1; omega)).trans R1.out
           have szB1 := B1.out.size
           have B4 := B1.out.grown hgr szB1 (fun z e => by have := (hpo z e).1; omega)
           have hp4 := own_high_row hO4
           obtain ⟨po, pc, rfl⟩ := own_slice hO4
           have R5 := hide (setRow_heap x4 y.heap.size _ (#[.int .u64 0, .slice none 0 0, .slice po (k + 1) pc]) _ _ R4)
           have B5 := hide (below_setRow (g := y.heap.size) B4 (Nat.le_refl _) #[.int .u64 0, .slice none 0 0, .slice po (k + 1) pc])
           have O5 := hide (own_but hO4 (fun q hq => setRow_other x4 y.heap.size q #[.int .u64 0, .slice none 0 0, .slice po (k + 1) pc] (by have := (hp4 q hq).1; omega)))
           clear R1 O1 B1 B4 hO4 hgr NVc cW cP RX RY hp4 szB1
           go_wp2_with (first | (refine wpList_store_cell rfl 76 _ _ rfl y.heap.size 2 (.slice po (k + 1) pc) rfl rfl 78 #[.int .u64 0, .slice none 0 0, .slice pva k pvc] #[.int .u64 0, .slice none 0 0, .slice po (k + 1) pc] R4 (by show 2 < 3; decide) rfl infoVS rfl ?_) | fail)
           refine ⟨⟨k + 1, _, by omega, by omega, by go_num, by rw [hat1.out], by rw [hat1.out]; exact eR.out, R5.out, by rw [hvk.out]; exact O5.out, B5.out⟩, ?_⟩
           simp [intOf]; omega
          ·refine wp_world_op (.pointer (some ⟨q1.heap.size, 0, none⟩)) (q1.alloc (.cells #[.int .i64 0, .int .i64 0, .int .i64 0] 35)) (by kernel_rfl) ?_
           have hb_ : Below q1.heap.size q1 (q1.alloc (.cells #[.int .i64 0, .int .i64 0, .int .i64 0] 35)) := (Below.refl _ _).alloc (Nat.le_refl _) _
           have lo_gY : wr.heap.size ≤ q1.heap.size := hbw
           have lb_gY : y.heap.size ≤ q1.heap.size := hby.size
           have lV_gY := lt_of_row RVb
           have RY := hp1_0 q1 (.cells #[.int .i64 0, .int .i64 0, .int .i64 0] 35)
           have sz_q6 := hby.size
           replace RVb := keep hb_ RVb
           replace hOp := own_keep_row hOp hb_
           have HS' : (fun W : World => W.rangeAt b (off + k * 5) [.int .i64 no, .int .i64 kd, .int .u64 l, .int .u64 mo, .slice so sn sc] ∧ W.rangeAt fb (k * 4) [.int .i64 fno, .int .i64 fty, .int .u64 (fnum : Int), .slice fda fdl fdc]) _ := ⟨rangeS_keep2 HS.1 hb_ (by omega), rangeS_keep2 HS.2 hb_ (by omega)⟩
           replace HS := HS'
           clear HS'
           replace hby := Below.after hby hb_
           replace hbw := Nat.le_trans hbw hb_.size
           clear hb_
           refine hK_ _ _ HS ?_
           simp only [Act.put, List.getElem_toArray, List.getElem_cons_succ, List.getElem_cons_zero, List.setIfInBounds_toArray, List.set_cons_succ, List.set_cons_zero]
           clear hK_
           generalize q1.alloc (.cells #[.int .i64 0, .int .i64 0, .int .i64 0] 35) = q6 at *
           generalize q1.heap.size = gY at *
           refine wpAnyH_one (k := 21) (fuel := 2) (by kernel_rfl) rfl (by kernel_rfl) (fun K_ hK_ => ?_)
           refine wp_world_op (.pointer (some ⟨q6.heap.size, 0, none⟩)) (q6.alloc (.cells #[.int .u64 0, .slice none 0 0, .slice none 0 0] 78)) (by kernel_rfl) ?_
           have hb_ : Below q6.heap.size q6 (q6.alloc (.cells #[.int .u64 0, .slice none 0 0, .slice none 0 0] 78)) := (Below.refl _ _).alloc (Nat.le_refl _) _
           have lo_gX : wr.heap.size ≤ q6.heap.size := hbw
           have lb_gX : y.heap.size ≤ q6.heap.size := hby.size
           have lt_RY_gX := lt_of_row RY
           have lV_gX := lt_of_row RVb
           have RX := hp1_0 q6 (.cells #[.int .u64 0, .slice none 0 0, .slice none 0 0] 78)
           replace RY := keep hb_ RY
           have sz_q7 := hby.size
           replace RVb := keep hb_ RVb
           replace hOp := own_keep_row hOp hb_
           have HS' : (fun W : World => W.rangeAt b (off + k * 5) [.int .i64 no, .int .i64 kd, .int .u64 l, .int .u64 mo, .slice so sn sc] ∧ W.rangeAt fb (k * 4) [.int .i64 fno, .int .i64 fty, .int .u64 (fnum : Int), .slice fda fdl fdc]) _ := ⟨rangeS_keep2 HS.1 hb_ (by omega), rangeS_keep2 HS.2 hb_ (by omega)⟩
           replace HS := HS'
           clear HS'
           replace hby := Below.after hby hb_
           replace hbw := Nat.le_trans hbw hb_.size
           clear hb_
           refine hK_ _ _ HS ?_
           simp only [Act.put, List.getElem_toArray, List.getElem_cons_succ, List.getElem_cons_zero, List.setIfInBounds_toArray, List.set_cons_succ, List.set_cons_zero]
           clear hK_
           generalize q6.alloc (.cells #[.int .u64 0, .slice none 0 0, .slice none 0 0] 78) = q7 at *
           generalize q6.heap.size = gX at *
           refine wpAnyH_one (k := 23) (fuel := 1) (by kernel_rfl) rfl (by kernel_rfl) (fun K_ hK_ => ?_)
           refine wp_store_row 78 _ _ rfl gX #[.int .u64 (fnum : Int), .slice fda fdl fdc, .slice none 0 0] rfl rfl 78 _ RX infoV rfl oneA ?_
           replace RY := (setRow_other q7 gX gY #[.int .u64 (fnum : Int), .slice fda fdl fdc, .slice none 0 0] (by omega)).trans RY
           replace RVb := (setRow_other q7 gX y.heap.size #[.int .u64 (fnum : Int), .slice fda fdl fdc, .slice none 0 0] (by omega)).trans RVb
           replace hOp := own_but hOp (fun q hq => setRow_other q7 gX q #[.int .u64 (fnum : Int), .slice fda fdl fdc, .slice none 0 0] (by have := (hpo q hq).2; omega))
           have HS' : (fun W : World => W.rangeAt b (off + k * 5) [.int .i64 no, .int .i64 kd, .int .u64 l, .int .u64 mo, .slice so sn sc] ∧ W.rangeAt fb (k * 4) [.int .i64 fno, .int .i64 fty, .int .u64 (fnum : Int), .slice fda fdl fdc]) (q7.setRow gX #[.int .u64 (fnum : Int), .slice fda fdl fdc, .slice none 0 0]) := ⟨mv_range HS.1 (setRow_other q7 gX b #[.int .u64 (fnum : Int), .slice fda fdl fdc, .slice none 0 0] (by omega)), mv_range HS.2 (setRow_other q7 gX fb #[.int .u64 (fnum : Int), .slice fda fdl fdc, .slice none 0 0] (by omega))⟩
           replace HS := HS'
           clear HS'
           replace RX := setRow_heap q7 gX _ (#[.int .u64 (fnum : Int), .slice fda fdl fdc, .slice none 0 0]) _ _ RX
           replace hby := below_setRow hby (show y.heap.size ≤ gX by omega) #[.int .u64 (fnum : Int), .slice fda fdl fdc, .slice none 0 0]
           have hse : (q7.setRow gX #[.int .u64 (fnum : Int), .slice fda fdl fdc, .slice none 0 0]).heap.size = q7.heap.size := by simp [World.setRow]
           rw [← hse] at hbw
           clear hse
           refine hK_ _ _ HS ?_
           simp only [Act.put, List.getElem_toArray, List.getElem_cons_succ, List.getElem_cons_zero]
           clear hK_
           generalize q7.setRow gX #[.int .u64 (fnum : Int), .slice fda fdl fdc, .slice none 0 0] = q8 at *
           refine wpAnyH_one (k := 24) (fuel := 0) (by kernel_rfl) rfl (by kernel_rfl) (fun K_ hK_ => ?_)
           refine wp_store_row 35 _ _ rfl gY #[.int .i64 0, .int .i64 0, .int .i64 0] rfl rfl 35 _ RY infoFt rfl oneB ?_
           replace RX := (setRow_other q8 gY gX #[.int .i64 0, .int .i64 0, .int .i64 0] (by omega)).trans RX
           replace RVb := (setRow_other q8 gY y.heap.size #[.int .i64 0, .int .i64 0, .int .i64 0] (by omega)).trans RVb
           replace hOp := own_but hOp (fun q hq => setRow_other q8 gY q #[.int .i64 0, .int .i64 0, .int .i64 0] (by have := (hpo q hq).2; omega))
           have HS' : (fun W : World => W.rangeAt b (off + k * 5) [.int .i64 no, .int .i64 kd, .int .u64 l, .int .u64 mo, .slice so sn sc] ∧ W.rangeAt fb (k * 4) [.int .i64 fno, .int .i64 fty, .int .u64 (fnum : Int), .slice fda fdl fdc]) (q8.setRow gY #[.int .i64 0, .int .i64 0, .int .i64 0]) := ⟨mv_range HS.1 (setRow_other q8 gY b #[.int .i64 0, .int .i64 0, .int .i64 0] (by omega)), mv_range HS.2 (setRow_other q8 gY fb #[.int .i64 0, .int .i64 0, .int .i64 0] (by omega))⟩
           replace HS := HS'
           clear HS'
           replace RY := setRow_heap q8 gY _ (#[.int .i64 0, .int .i64 0, .int .i64 0]) _ _ RY
           replace hby := below_setRow hby (show y.heap.size ≤ gY by omega) #[.int .i64 0, .int .i64 0, .int .i64 0]
           have hse : (q8.setRow gY #[.int .i64 0, .int .i64 0, .int .i64 0]).heap.size = q8.heap.size := by simp [World.setRow]
           rw [← hse] at hbw
           clear hse
           refine hK_ _ _ HS ?_
           simp only [Act.put, List.getElem_toArray, List.getElem_cons_succ, List.getElem_cons_zero]
           clear hK_
           generalize q8.setRow gY #[.int .i64 0, .int .i64 0, .int .i64 0] = q9 at *
           refine wpAnyH_done (by kernel_rfl) ?_ _
           have cW := cell_of_row _ _ 2 _ _ _ RY
           have cP := cell_of_row _ _ 2 _ _ _ RVb
           have NVc := new_cells4 q9 #[.int .u64 (fnum : Int), .slice fda fdl fdc, .slice none 0 0] 78
           have hb_ : Below q9.heap.size q9 (q9.alloc (.cells #[.int .u64 (fnum : Int), .slice fda fdl fdc, .slice none 0 0] 78)) := (Below.refl _ _).alloc (Nat.le_refl _) _
           have lgV := lt_of_row RVb
           have R1 := keep hb_ RVb
           have O1 := own_keep_row hOp hb_
           have B1 := Below.after hby hb_
           replace R1 := hide R1
           replace O1 := hide O1
           replace B1 := hide B1
           clear hb_ HS hOp hby RVb
           obtain ⟨iV, hiV, hiz, his, hib⟩ := infoVI
           go_wp2_with (first | (refine wpList_load_want rfl 78 _ rfl gX rfl 78 #[.int .u64 (fnum : Int), .slice fda fdl fdc, .slice none 0 0] (0, 0) _ RX Tryz.underlying78 rfl infoV ?_) | (at_builtin; refine wpList_plain rfl fun K_ hKp => wp_append_nx _ _ 76 rfl (y.heap.size + 1) 78 iV (.agg #[.int .u64 0, .slice none 0 0, .slice none 0 0]) 3 56 Tryz.underlying76 hiV hiz his hib rfl (by decide) _ k (vrk fs us k) rfl O1.out ⟨q9.heap.size, 0, none⟩ 1 1 [.int .u64 (fnum : Int), .slice fda fdl fdc, .slice none 0 0] rfl rfl NVc (fun x hx => by simp at hx; rcases hx with rfl | rfl | rfl <;> rfl) (by unfold maxLen; omega) (by omega) (by have := B1.out.size; simp; omega) ?_) | fail)
           intro pv' x4 hO4 hgr hnx
           refine hKp _ _ ?_
           clear hKp hnx
           have R4 := (hgr.block y.heap.size (by simp; omega) (fun e => by have := (hpo y.heap.size e.symm).1; omega)).trans R1.out
           have szB1 := B1.out.size
           have B4 := B1.out.grown hgr szB1 (fun z e => by have := (hpo z e).1; omega)
           have hp4 := own_high_row hO4
           obtain ⟨po, pc, rfl⟩ := own_slice hO4
           have R5 := hide (setRow_heap x4 y.heap.size _ (#[.int .u64 0, .slice none 0 0, .slice po (k + 1) pc]) _ _ R4)
           have B5 := hide (below_setRow (g := y.heap.size) B4 (Nat.le_refl _) #[.int .u64 0, .slice none 0 0, .slice po (k + 1) pc])
           have O5 := hide (own_but hO4 (fun q hq => setRow_other x4 y.heap.size q #[.int .u64 0, .slice none 0 0, .slice po (k + 1) pc] (by have := (hp4 q hq).1; omega)))
           clear R1 O1 B1 B4 hO4 hgr NVc cW cP RX RY hp4 szB1
           go_wp2_with (first | (refine wpList_store_cell rfl 76 _ _ rfl y.heap.size 2 (.slice po (k + 1) pc) rfl rfl 78 #[.int .u64 0, .slice none 0 0, .slice pva k pvc] #[.int .u64 0, .slice none 0 0, .slice po (k + 1) pc] R4 (by show 2 < 3; decide) rfl infoVS rfl ?_) | fail)
           refine ⟨⟨k + 1, _, by omega, by omega, by go_num, by rw [hat1.out], by rw [hat1.out]; exact eR.out, R5.out, by rw [hvk.out]; exact O5.out, B5.out⟩, ?_⟩
           simp [intOf]; omega
         ·refine wp_world_op (.pointer (some ⟨a6.heap.size, 0, none⟩)) (a6.alloc (.cells #[.int .u64 0, .slice none 0 0, .slice none 0 0] 78)) (by kernel_rfl) ?_
          have hb_ : Below a6.heap.size a6 (a6.alloc (.cells #[.int .u64 0, .slice none 0 0, .slice none 0 0] 78)) := (Below.refl _ _).alloc (Nat.le_refl _) _
          have lo_gX : wr.heap.size ≤ a6.heap.size := hbw
          have lb_gX : y.heap.size ≤ a6.heap.size := hby.size
          have lV_gX := lt_of_row RVb
          have RX := hp1_0 a6 (.cells #[.int .u64 0, .slice none 0 0, .slice none 0 0] 78)
          have sz_q10 := hby.size
          replace RVb := keep hb_ RVb
          replace hOp := own_keep_row hOp hb_
          have HS' : (fun W : World => W.rangeAt b (off + k * 5) [.int .i64 no, .int .i64 kd, .int .u64 l, .int .u64 mo, .slice so sn sc] ∧ W.rangeAt fb (k * 4) [.int .i64 fno, .int .i64 fty, .int .u64 (fnum : Int), .slice fda fdl fdc]) _ := ⟨rangeS_keep2 HS.1 hb_ (by omega), rangeS_keep2 HS.2 hb_ (by omega)⟩
          replace HS := HS'
          clear HS'
          replace hby := Below.after hby hb_
          replace hbw := Nat.le_trans hbw hb_.size
          clear hb_
          refine hK_ _ _ HS ?_
          simp only [Act.put, List.getElem_toArray, List.getElem_cons_succ, List.getElem_cons_zero, List.setIfInBounds_toArray, List.set_cons_succ, List.set_cons_zero]
          clear hK_
          generalize a6.alloc (.cells #[.int .u64 0, .slice none 0 0, .slice none 0 0] 78) = q10 at *
          generalize a6.heap.size = gX at *
          refine wpAnyH_two (j := 17) (k := 22) (fuel := 6) (by kernel_rfl) rfl rfl (by kernel_rfl) (by kernel_rfl) (fun K_ hK_ => ?_) (fun K_ hK_ => ?_)
          ·refine wp_call_ex (f := 94) (R := fun u w' => u = .tuple #[.agg #[.int .u64 (fnum : Int), .slice fda fdl fdc, .slice none 0 0], .agg #[.int .i64 0, .int .i64 0, .int .i64 0]] ∧ Below q10.heap.size q10 w') (by kernel_rfl) (cV.out q10) (fun v_ q11 hX_ => ?_)
           obtain ⟨rfl, hb_⟩ := hX_
           replace RX := keep hb_ RX
           have sz_q11 := hby.size
           replace RVb := keep hb_ RVb
           replace hOp := own_keep_row hOp hb_
           have HS' : (fun W : World => W.rangeAt b (off + k * 5) [.int .i64 no, .int .i64 kd, .int .u64 l, .int .u64 mo, .slice so sn sc] ∧ W.rangeAt fb (k * 4) [.int .i64 fno, .int .i64 fty, .int .u64 (fnum : Int), .slice fda fdl fdc]) _ := ⟨rangeS_keep2 HS.1 hb_ (by omega), rangeS_keep2 HS.2 hb_ (by omega)⟩
           replace HS := HS'
           clear HS'
           replace hby := Below.after hby hb_
           replace hbw := Nat.le_trans hbw hb_.size
           clear hb_
           refine hK_ _ _ HS ?_
           simp only [Act.put, List.getElem_toArray, List.getElem_cons_succ, List.getElem_cons_zero, List.setIfInBounds_toArray, List.set_cons_succ, List.set_cons_zero]
           clear hK_
           refine wpAnyH_take (i := 18) (v := ?v32) rfl (by kernel_rfl) (by kernel_rfl) (by kernel_rfl) (fun _ _ _ h => h) (Or.inl ⟨by rfl, ?y32⟩) HS ?r32
           case y32 =>
            intro w_ hS_
            go_simp
            try with_reducible rfl
           simp only [Act.put, List.getElem_toArray, List.getElem_cons_succ, List.getElem_cons_zero, List.setIfInBounds_toArray, List.set_cons_succ, List.set_cons_zero]
           refine wpAnyH_take (i := 19) (v := ?v33) rfl (by kernel_rfl) (by kernel_rfl) (by kernel_rfl) (fun _ _ _ h => h) (Or.inl ⟨by rfl, ?y33⟩) HS ?r33
           case y33 =>
            intro w_ hS_
            go_simp
            try with_reducible rfl
           simp only [Act.put, List.getElem_toArray, List.getElem_cons_succ, List.getElem_cons_zero, List.setIfInBounds_toArray, List.set_cons_succ, List.set_cons_zero]
           refine wpAnyH_take (i := 20) (v := ?v34) rfl (by kernel_rfl) (by kernel_rfl) (by kernel_rfl) (fun _ _ _ h => h) (Or.inl ⟨by rfl, ?y34⟩) HS ?r34
           case y34 =>
            intro w_ hS_
            go_simp
            try with_reducible rfl
           simp only [Act.put, List.getElem_toArray, List.getElem_cons_succ, List.getElem_cons_zero, List.setIfInBounds_toArray, List.set_cons_succ, List.set_cons_zero]
           refine wpAnyH_one (k := 22) (fuel := 2) (by kernel_rfl) rfl (by kernel_rfl) (fun K_ hK_ => ?_)
           refine wp_world_op (.pointer (some ⟨q11.heap.size, 0, none⟩)) (q11.alloc (.cells #[.int .i64 0, .int .i64 0, .int .i64 0] 35)) (by kernel_rfl) ?_
           have hb_ : Below q11.heap.size q11 (q11.alloc (.cells #[.int .i64 0, .int .i64 0, .int .i64 0] 35)) := (Below.refl _ _).alloc (Nat.le_refl _) _
           have lo_gY : wr.heap.size ≤ q11.heap.size := hbw
           have lb_gY : y.heap.size ≤ q11.heap.size := hby.size
           have lt_RX_gY := lt_of_row RX
           have lV_gY := lt_of_row RVb
           have RY := hp1_0 q11 (.cells #[.int .i64 0, .int .i64 0, .int .i64 0] 35)
           replace RX := keep hb_ RX
           have sz_q12 := hby.size
           replace RVb := keep hb_ RVb
           replace hOp := own_keep_row hOp hb_
           have HS' : (fun W : World => W.rangeAt b (off + k * 5) [.int .i64 no, .int .i64 kd, .int .u64 l, .int .u64 mo, .slice so sn sc] ∧ W.rangeAt fb (k * 4) [.int .i64 fno, .int .i64 fty, .int .u64 (fnum : Int), .slice fda fdl fdc]) _ := ⟨rangeS_keep2 HS.1 hb_ (by omega), rangeS_keep2 HS.2 hb_ (by omega)⟩
           replace HS := HS'
           clear HS'
           replace hby := Below.after hby hb_
           replace hbw := Nat.le_trans hbw hb_.size
           clear hb_
           refine hK_ _ _ HS ?_
           simp only [Act.put, List.getElem_toArray, List.getElem_cons_succ, List.getElem_cons_zero, List.setIfInBounds_toArray, List.set_cons_succ, List.set_cons_zero]
           clear hK_
           generalize q11.alloc (.cells #[.int .i64 0, .int .i64 0, .int .i64 0] 35) = q12 at *
           generalize q11.heap.size = gY at *
           refine wpAnyH_one (k := 23) (fuel := 1) (by kernel_rfl) rfl (by kernel_rfl) (fun K_ hK_ => ?_)
           refine wp_store_row 78 _ _ rfl gX #[.int .u64 (fnum : Int), .slice fda fdl fdc, .slice none 0 0] rfl rfl 78 _ RX infoV rfl oneA ?_
           replace RY := (setRow_other q12 gX gY #[.int .u64 (fnum : Int), .slice fda fdl fdc, .slice none 0 0] (by omega)).trans RY
           replace RVb := (setRow_other q12 gX y.heap.size #[.int .u64 (fnum : Int), .slice fda fdl fdc, .slice none 0 0] (by omega)).trans RVb
           replace hOp := own_but hOp (fun q hq => setRow_other q12 gX q #[.int .u64 (fnum : Int), .slice fda fdl fdc, .slice none 0 0] (by have := (hpo q hq).2; omega))
           have HS' : (fun W : World => W.rangeAt b (off + k * 5) [.int .i64 no, .int .i64 kd, .int .u64 l, .int .u64 mo, .slice so sn sc] ∧ W.rangeAt fb (k * 4) [.int .i64 fno, .int .i64 fty, .int .u64 (fnum : Int), .slice fda fdl fdc]) (q12.setRow gX #[.int .u64 (fnum : Int), .slice fda fdl fdc, .slice none 0 0]) := ⟨mv_range HS.1 (setRow_other q12 gX b #[.int .u64 (fnum : Int), .slice fda fdl fdc, .slice none 0 0] (by omega)), mv_range HS.2 (setRow_other q12 gX fb #[.int .u64 (fnum : Int), .slice fda fdl fdc, .slice none 0 0] (by omega))⟩
           replace HS := HS'
           clear HS'
           replace RX := setRow_heap q12 gX _ (#[.int .u64 (fnum : Int), .slice fda fdl fdc, .slice none 0 0]) _ _ RX
           replace hby := below_setRow hby (show y.heap.size ≤ gX by omega) #[.int .u64 (fnum : Int), .slice fda fdl fdc, .slice none 0 0]
           have hse : (q12.setRow gX #[.int .u64 (fnum : Int), .slice fda fdl fdc, .slice none 0 0]).heap.size = q12.heap.size := by simp [World.setRow]
           rw [← hse] at hbw
           clear hse
           refine hK_ _ _ HS ?_
           simp only [Act.put, List.getElem_toArray, List.getElem_cons_succ, List.getElem_cons_zero]
           clear hK_
           generalize q12.setRow gX #[.int .u64 (fnum : Int), .slice fda fdl fdc, .slice none 0 0] = q13 at *
           refine wpAnyH_one (k := 24) (fuel := 0) (by kernel_rfl) rfl (by kernel_rfl) (fun K_ hK_ => ?_)
           refine wp_store_row 35 _ _ rfl gY #[.int .i64 0, .int .i64 0, .int .i64 0] rfl rfl 35 _ RY infoFt rfl oneB ?_
           replace RX := (setRow_other q13 gY gX #[.int .i64 0, .int .i64 0, .int .i64 0] (by omega)).trans RX
           replace RVb := (setRow_other q13 gY y.heap.size #[.int .i64 0, .int .i64 0, .int .i64 0] (by omega)).trans RVb
           replace hOp := own_but hOp (fun q hq => setRow_other q13 gY q #[.int .i64 0, .int .i64 0, .int .i64 0] (by have := (hpo q hq).2; omega))
           have HS' : (fun W : World => W.rangeAt b (off + k * 5) [.int .i64 no, .int .i64 kd, .int .u64 l, .int .u64 mo, .slice so sn sc] ∧ W.rangeAt fb (k * 4) [.int .i64 fno, .int .i64 fty, .int .u64 (fnum : Int), .slice fda fdl fdc]) (q13.setRow gY #[.int .i64 0, .int .i64 0, .int .i64 0]) := ⟨mv_range HS.1 (setRow_other q13 gY b #[.int .i64 0, .int .i64 0, .int .i64 0] (by omega)), mv_range HS.2 (setRow_other q13 gY fb #[.int .i64 0, .int .i64 0, .int .i64 0] (by omega))⟩
           replace HS := HS'
           clear HS'
           replace RY := setRow_heap q13 gY _ (#[.int .i64 0, .int .i64 0, .int .i64 0]) _ _ RY
           replace hby := below_setRow hby (show y.heap.size ≤ gY by omega) #[.int .i64 0, .int .i64 0, .int .i64 0]
           have hse : (q13.setRow gY #[.int .i64 0, .int .i64 0, .int .i64 0]).heap.size = q13.heap.size := by simp [World.setRow]
           rw [← hse] at hbw
           clear hse
           refine hK_ _ _ HS ?_
           simp only [Act.put, List.getElem_toArray, List.getElem_cons_succ, List.getElem_cons_zero]
           clear hK_
           generalize q13.setRow gY #[.int .i64 0, .int .i64 0, .int .i64 0] = q14 at *
           refine wpAnyH_done (by kernel_rfl) ?_ _
           have cW := cell_of_row _ _ 2 _ _ _ RY
           have cP := cell_of_row _ _ 2 _ _ _ RVb
           have NVc := new_cells4 q14 #[.int .u64 (fnum : Int), .slice fda fdl fdc, .slice none 0 0] 78
           have hb_ : Below q14.heap.size q14 (q14.alloc (.cells #[.int .u64 (fnum : Int), .slice fda fdl fdc, .slice none 0 0] 78)) := (Below.refl _ _).alloc (Nat.le_refl _) _
           have lgV := lt_of_row RVb
           have R1 := keep hb_ RVb
           have O1 := own_keep_row hOp hb_
           have B1 := Below.after hby hb_
           replace R1 := hide R1
           replace O1 := hide O1
           replace B1 := hide B1
           clear hb_ HS hOp hby RVb
           obtain ⟨iV, hiV, hiz, his, hib⟩ := infoVI
           go_wp2_with (first | (refine wpList_load_want rfl 78 _ rfl gX rfl 78 #[.int .u64 (fnum : Int), .slice fda fdl fdc, .slice none 0 0] (0, 0) _ RX Tryz.underlying78 rfl infoV ?_) | (at_builtin; refine wpList_plain rfl fun K_ hKp => wp_append_nx _ _ 76 rfl (y.heap.size + 1) 78 iV (.agg #[.int .u64 0, .slice none 0 0, .slice none 0 0]) 3 56 Tryz.underlying76 hiV hiz his hib rfl (by decide) _ k (vrk fs us k) rfl O1.out ⟨q14.heap.size, 0, none⟩ 1 1 [.int .u64 (fnum : Int), .slice fda fdl fdc, .slice none 0 0] rfl rfl NVc (fun x hx => by simp at hx; rcases hx with rfl | rfl | rfl <;> rfl) (by unfold maxLen; omega) (by omega) (by have := B1.out.size; simp; omega) ?_) | fail)
           intro pv' x4 hO4 hgr hnx
           refine hKp _ _ ?_
           clear hKp hnx
           have R4 := (hgr.block y.heap.size (by simp; omega) (fun e => by have := (hpo y.heap.size e.symm).1; omega)).trans R1.out
           have szB1 := B1.out.size
           have B4 := B1.out.grown hgr szB1 (fun z e => by have := (hpo z e).1; omega)
           have hp4 := own_high_row hO4
           obtain ⟨po, pc, rfl⟩ := own_slice hO4
           have R5 := hide (setRow_heap x4 y.heap.size _ (#[.int .u64 0, .slice none 0 0, .slice po (k + 1) pc]) _ _ R4)
           have B5 := hide (below_setRow (g := y.heap.size) B4 (Nat.le_refl _) #[.int .u64 0, .slice none 0 0, .slice po (k + 1) pc])
           have O5 := hide (own_but hO4 (fun q hq => setRow_other x4 y.heap.size q #[.int .u64 0, .slice none 0 0, .slice po (k + 1) pc] (by have := (hp4 q hq).1; omega)))
           clear R1 O1 B1 B4 hO4 hgr NVc cW cP RX RY hp4 szB1
           go_wp2_with (first | (refine wpList_store_cell rfl 76 _ _ rfl y.heap.size 2 (.slice po (k + 1) pc) rfl rfl 78 #[.int .u64 0, .slice none 0 0, .slice pva k pvc] #[.int .u64 0, .slice none 0 0, .slice po (k + 1) pc] R4 (by show 2 < 3; decide) rfl infoVS rfl ?_) | fail)
           refine ⟨⟨k + 1, _, by omega, by omega, by go_num, by rw [hat1.out], by rw [hat1.out]; exact eR.out, R5.out, by rw [hvk.out]; exact O5.out, B5.out⟩, ?_⟩
           simp [intOf]; omega
          ·refine wp_world_op (.pointer (some ⟨q10.heap.size, 0, none⟩)) (q10.alloc (.cells #[.int .i64 0, .int .i64 0, .int .i64 0] 35)) (by kernel_rfl) ?_
           have hb_ : Below q10.heap.size q10 (q10.alloc (.cells #[.int .i64 0, .int .i64 0, .int .i64 0] 35)) := (Below.refl _ _).alloc (Nat.le_refl _) _
           have lo_gY : wr.heap.size ≤ q10.heap.size := hbw
           have lb_gY : y.heap.size ≤ q10.heap.size := hby.size
           have lt_RX_gY := lt_of_row RX
           have lV_gY := lt_of_row RVb
           have RY := hp1_0 q10 (.cells #[.int .i64 0, .int .i64 0, .int .i64 0] 35)
           replace RX := keep hb_ RX
           have sz_q15 := hby.size
           replace RVb := keep hb_ RVb
           replace hOp := own_keep_row hOp hb_
           have HS' : (fun W : World => W.rangeAt b (off + k * 5) [.int .i64 no, .int .i64 kd, .int .u64 l, .int .u64 mo, .slice so sn sc] ∧ W.rangeAt fb (k * 4) [.int .i64 fno, .int .i64 fty, .int .u64 (fnum : Int), .slice fda fdl fdc]) _ := ⟨rangeS_keep2 HS.1 hb_ (by omega), rangeS_keep2 HS.2 hb_ (by omega)⟩
           replace HS := HS'
           clear HS'
           replace hby := Below.after hby hb_
           replace hbw := Nat.le_trans hbw hb_.size
           clear hb_
           refine hK_ _ _ HS ?_
           simp only [Act.put, List.getElem_toArray, List.getElem_cons_succ, List.getElem_cons_zero, List.setIfInBounds_toArray, List.set_cons_succ, List.set_cons_zero]
           clear hK_
           generalize q10.alloc (.cells #[.int .i64 0, .int .i64 0, .int .i64 0] 35) = q15 at *
           generalize q10.heap.size = gY at *
           refine wpAnyH_one (k := 17) (fuel := 5) (by kernel_rfl) rfl (by kernel_rfl) (fun K_ hK_ => ?_)
           refine wp_call_ex (f := 94) (R := fun u w' => u = .tuple #[.agg #[.int .u64 (fnum : Int), .slice fda fdl fdc, .slice none 0 0], .agg #[.int .i64 0, .int .i64 0, .int .i64 0]] ∧ Below q15.heap.size q15 w') (by kernel_rfl) (cV.out q15) (fun v_ q16 hX_ => ?_)
           obtain ⟨rfl, hb_⟩ := hX_
           replace RX := keep hb_ RX
           replace RY := keep hb_ RY
           have sz_q16 := hby.size
           replace RVb := keep hb_ RVb
           replace hOp := own_keep_row hOp hb_
           have HS' : (fun W : World => W.rangeAt b (off + k * 5) [.int .i64 no, .int .i64 kd, .int .u64 l, .int .u64 mo, .slice so sn sc] ∧ W.rangeAt fb (k * 4) [.int .i64 fno, .int .i64 fty, .int .u64 (fnum : Int), .slice fda fdl fdc]) _ := ⟨rangeS_keep2 HS.1 hb_ (by omega), rangeS_keep2 HS.2 hb_ (by omega)⟩
           replace HS := HS'
           clear HS'
           replace hby := Below.after hby hb_
           replace hbw := Nat.le_trans hbw hb_.size
           clear hb_
           refine hK_ _ _ HS ?_
           simp only [Act.put, List.getElem_toArray, List.getElem_cons_succ, List.getElem_cons_zero, List.setIfInBounds_toArray, List.set_cons_succ, List.set_cons_zero]
           clear hK_
           refine wpAnyH_take (i := 18) (v := ?v36) rfl (by kernel_rfl) (by kernel_rfl) (by kernel_rfl) (fun _ _ _ h => h) (Or.inl ⟨by rfl, ?y36⟩) HS ?r36
           case y36 =>
            intro w_ hS_
            go_simp
            try with_reducible rfl
           simp only [Act.put, List.getElem_toArray, List.getElem_cons_succ, List.getElem_cons_zero, List.setIfInBounds_toArray, List.set_cons_succ, List.set_cons_zero]
           refine wpAnyH_take (i := 19) (v := ?v37) rfl (by kernel_rfl) (by kernel_rfl) (by kernel_rfl) (fun _ _ _ h => h) (Or.inl ⟨by rfl, ?y37⟩) HS ?r37
           case y37 =>
            intro w_ hS_
            go_simp
            try with_reducible rfl
           simp only [Act.put, List.getElem_toArray, List.getElem_cons_succ, List.getElem_cons_zero, List.setIfInBounds_toArray, List.set_cons_succ, List.set_cons_zero]
           refine wpAnyH_take (i := 20) (v := ?v38) rfl (by kernel_rfl) (by kernel_rfl) (by kernel_rfl) (fun _ _ _ h => h) (Or.inl ⟨by rfl, ?y38⟩) HS ?r38
           case y38 =>
            intro w_ hS_
            go_simp
            try with_reducible rfl
           simp only [Act.put, List.getElem_toArray, List.getElem_cons_succ, List.getElem_cons_zero, List.setIfInBounds_toArray, List.set_cons_succ, List.set_cons_zero]
           refine wpAnyH_one (k := 23) (fuel := 1) (by kernel_rfl) rfl (by kernel_rfl) (fun K_ hK_ => ?_)
           refine wp_store_row 78 _ _ rfl gX #[.int .u64 (fnum : Int), .slice fda fdl fdc, .slice none 0 0] rfl rfl 78 _ RX infoV rfl oneA ?_
           replace RY := (setRow_other q16 gX gY #[.int .u64 (fnum : Int), .slice fda fdl fdc, .slice none 0 0] (by omega)).trans RY
           replace RVb := (setRow_other q16 gX y.heap.size #[.int .u64 (fnum : Int), .slice fda fdl fdc, .slice none 0 0] (by omega)).trans RVb
           replace hOp := own_but hOp (fun q hq => setRow_other q16 gX q #[.int .u64 (fnum : Int), .slice fda fdl fdc, .slice none 0 0] (by have := (hpo q hq).2; omega))
           have HS' : (fun W : World => W.rangeAt b (off + k * 5) [.int .i64 no, .int .i64 kd, .int .u64 l, .int .u64 mo, .slice so sn sc] ∧ W.rangeAt fb (k * 4) [.int .i64 fno, .int .i64 fty, .int .u64 (fnum : Int), .slice fda fdl fdc]) (q16.setRow gX #[.int .u64 (fnum : Int), .slice fda fdl fdc, .slice none 0 0]) := ⟨mv_range HS.1 (setRow_other q16 gX b #[.int .u64 (fnum : Int), .slice fda fdl fdc, .slice none 0 0] (by omega)), mv_range HS.2 (setRow_other q16 gX fb #[.int .u64 (fnum : Int), .slice fda fdl fdc, .slice none 0 0] (by omega))⟩
           replace HS := HS'
           clear HS'
           replace RX := setRow_heap q16 gX _ (#[.int .u64 (fnum : Int), .slice fda fdl fdc, .slice none 0 0]) _ _ RX
           replace hby := below_setRow hby (show y.heap.size ≤ gX by omega) #[.int .u64 (fnum : Int), .slice fda fdl fdc, .slice none 0 0]
           have hse : (q16.setRow gX #[.int .u64 (fnum : Int), .slice fda fdl fdc, .slice none 0 0]).heap.size = q16.heap.size := by simp [World.setRow]
           rw [← hse] at hbw
           clear hse
           refine hK_ _ _ HS ?_
           simp only [Act.put, List.getElem_toArray, List.getElem_cons_succ, List.getElem_cons_zero]
           clear hK_
           generalize q16.setRow gX #[.int .u64 (fnum : Int), .slice fda fdl fdc, .slice none 0 0] = q17 at *
           refine wpAnyH_one (k := 24) (fuel := 0) (by kernel_rfl) rfl (by kernel_rfl) (fun K_ hK_ => ?_)
           refine wp_store_row 35 _ _ rfl gY #[.int .i64 0, .int .i64 0, .int .i64 0] rfl rfl 35 _ RY infoFt rfl oneB ?_
           replace RX := (setRow_other q17 gY gX #[.int .i64 0, .int .i64 0, .int .i64 0] (by omega)).trans RX
           replace RVb := (setRow_other q17 gY y.heap.size #[.int .i64 0, .int .i64 0, .int .i64 0] (by omega)).trans RVb
           replace hOp := own_but hOp (fun q hq => setRow_other q17 gY q #[.int .i64 0, .int .i64 0, .int .i64 0] (by have := (hpo q hq).2; omega))
           have HS' : (fun W : World => W.rangeAt b (off + k * 5) [.int .i64 no, .int .i64 kd, .int .u64 l, .int .u64 mo, .slice so sn sc] ∧ W.rangeAt fb (k * 4) [.int .i64 fno, .int .i64 fty, .int .u64 (fnum : Int), .slice fda fdl fdc]) (q17.setRow gY #[.int .i64 0, .int .i64 0, .int .i64 0]) := ⟨mv_range HS.1 (setRow_other q17 gY b #[.int .i64 0, .int .i64 0, .int .i64 0] (by omega)), mv_range HS.2 (setRow_other q17 gY fb #[.int .i64 0, .int .i64 0, .int .i64 0] (by omega))⟩
           replace HS := HS'
           clear HS'
           replace RY := setRow_heap q17 gY _ (#[.int .i64 0, .int .i64 0, .int .i64 0]) _ _ RY
           replace hby := below_setRow hby (show y.heap.size ≤ gY by omega) #[.int .i64 0, .int .i64 0, .int .i64 0]
           have hse : (q17.setRow gY #[.int .i64 0, .int .i64 0, .int .i64 0]).heap.size = q17.heap.size := by simp [World.setRow]
           rw [← hse] at hbw
           clear hse
           refine hK_ _ _ HS ?_
           simp only [Act.put, List.getElem_toArray, List.getElem_cons_succ, List.getElem_cons_zero]
           clear hK_
           generalize q17.setRow gY #[.int .i64 0, .int .i64 0, .int .i64 0] = q18 at *
           refine wpAnyH_done (by kernel_rfl) ?_ _
           have cW := cell_of_row _ _ 2 _ _ _ RY
           have cP := cell_of_row _ _ 2 _ _ _ RVb
           have NVc := new_cells4 q18 #[.int .u64 (fnum : Int), .slice fda fdl fdc, .slice none 0 0] 78
           have hb_ : Below q18.heap.size q18 (q18.alloc (.cells #[.int .u64 (fnum : Int), .slice fda fdl fdc, .slice none 0 0] 78)) := (Below.refl _ _).alloc (Nat.le_refl _) _
           have lgV := lt_of_row RVb
           have R1 := keep hb_ RVb
           have O1 := own_keep_row hOp hb_
           have B1 := Below.after hby hb_
           replace R1 := hide R1
           replace O1 := hide O1
           replace B1 := hide B1
           clear hb_ HS hOp hby RVb
           obtain ⟨iV, hiV, hiz, his, hib⟩ := infoVI
           go_wp2_with (first | (refine wpList_load_want rfl 78 _ rfl gX rfl 78 #[.int .u64 (fnum : Int), .slice fda fdl fdc, .slice none 0 0] (0, 0) _ RX Tryz.underlying78 rfl infoV ?_) | (at_builtin; refine wpList_plain rfl fun K_ hKp => wp_append_nx _ _ 76 rfl (y.heap.size + 1) 78 iV (.agg #[.int .u64 0, .slice none 0 0, .slice none 0 0]) 3 56 Tryz.underlying76 hiV hiz his hib rfl (by decide) _ k (vrk fs us k) rfl O1.out ⟨q18.heap.size, 0, none⟩ 1 1 [.int .u64 (fnum : Int), .slice fda fdl fdc, .slice none 0 0] rfl rfl NVc (fun x hx => by simp at hx; rcases hx with rfl | rfl | rfl <;> rfl) (by unfold maxLen; omega) (by omega) (by have := B1.out.size; simp; omega) ?_) | fail)
           intro pv' x4 hO4 hgr hnx
           refine hKp _ _ ?_
           clear hKp hnx
           have R4 := (hgr.block y.heap.size (by simp; omega) (fun e => by have := (hpo y.heap.size e.symm).1; omega)).trans R1.out
           have szB1 := B1.out.size
           have B4 := B1.out.grown hgr szB1 (fun z e => by have := (hpo z e).1; omega)
           have hp4 := own_high_row hO4
           obtain ⟨po, pc, rfl⟩ := own_slice hO4
           have R5 := hide (setRow_heap x4 y.heap.size _ (#[.int .u64 0, .slice none 0 0, .slice po (k + 1) pc]) _ _ R4)
           have B5 := hide (below_setRow (g := y.heap.size) B4 (Nat.le_refl _) #[.int .u64 0, .slice none 0 0, .slice po (k + 1) pc])
           have O5 := hide (own_but hO4 (fun q hq => setRow_other x4 y.heap.size q #[.int .u64 0, .slice none 0 0, .slice po (k + 1) pc] (by have := (hp4 q hq).1; omega)))
           clear R1 O1 B1 B4 hO4 hgr NVc cW cP RX RY hp4 szB1
           go_wp2_with (first | (refine wpList_store_cell rfl 76 _ _ rfl y.heap.size 2 (.slice po (k + 1) pc) rfl rfl 78 #[.int .u64 0, .slice none 0 0, .slice pva k pvc] #[.int .u64 0, .slice none 0 0, .slice po (k + 1) pc] R4 (by show 2 < 3; decide) rfl infoVS rfl ?_) | fail)
           refine ⟨⟨k + 1, _, by omega, by omega, by go_num, by rw [hat1.out], by rw [hat1.out]; exact eR.out, R5.out, by rw [hvk.out]; exact O5.out, B5.out⟩, ?_⟩
           simp [intOf]; omega
         ·refine wp_world_op (.pointer (some ⟨a6.heap.size, 0, none⟩)) (a6.alloc (.cells #[.int .i64 0, .int .i64 0, .int .i64 0] 35)) (by kernel_rfl) ?_
          have hb_ : Below a6.heap.size a6 (a6.alloc (.cells #[.int .i64 0, .int .i64 0, .int .i64 0] 35)) := (Below.refl _ _).alloc (Nat.le_refl _) _
          have lo_gY : wr.heap.size ≤ a6.heap.size := hbw
          have lb_gY : y.heap.size ≤ a6.heap.size := hby.size
          have lV_gY := lt_of_row RVb
          have RY := hp1_0 a6 (.cells #[.int .i64 0, .int .i64 0, .int .i64 0] 35)
          have sz_q19 := hby.size
          replace RVb := keep hb_ RVb
          replace hOp := own_keep_row hOp hb_
          have HS' : (fun W : World => W.rangeAt b (off + k * 5) [.int .i64 no, .int .i64 kd, .int .u64 l, .int .u64 mo, .slice so sn sc] ∧ W.rangeAt fb (k * 4) [.int .i64 fno, .int .i64 fty, .int .u64 (fnum : Int), .slice fda fdl fdc]) _ := ⟨rangeS_keep2 HS.1 hb_ (by omega), rangeS_keep2 HS.2 hb_ (by omega)⟩
          replace HS := HS'
          clear HS'
          replace hby := Below.after hby hb_
          replace hbw := Nat.le_trans hbw hb_.size
          clear hb_
          refine hK_ _ _ HS ?_
          simp only [Act.put, List.getElem_toArray, List.getElem_cons_succ, List.getElem_cons_zero, List.setIfInBounds_toArray, List.set_cons_succ, List.set_cons_zero]
          clear hK_
          generalize a6.alloc (.cells #[.int .i64 0, .int .i64 0, .int .i64 0] 35) = q19 at *
          generalize a6.heap.size = gY at *
          refine wpAnyH_two (j := 17) (k := 21) (fuel := 6) (by kernel_rfl) rfl rfl (by kernel_rfl) (by kernel_rfl) (fun K_ hK_ => ?_) (fun K_ hK_ => ?_)
          ·refine wp_call_ex (f := 94) (R := fun u w' => u = .tuple #[.agg #[.int .u64 (fnum : Int), .slice fda fdl fdc, .slice none 0 0], .agg #[.int .i64 0, .int .i64 0, .int .i64 0]] ∧ Below q19.heap.size q19 w') (by kernel_rfl) (cV.out q19) (fun v_ q20 hX_ => ?_)
           obtain ⟨rfl, hb_⟩ := hX_
           replace RY := keep hb_ RY
           have sz_q20 := hby.size
           replace RVb := keep hb_ RVb
           replace hOp := own_keep_row hOp hb_
           have HS' : (fun W : World => W.rangeAt b (off + k * 5) [.int .i64 no, .int .i64 kd, .int .u64 l, .int .u64 mo, .slice so sn sc] ∧ W.rangeAt fb (k * 4) [.int .i64 fno, .int .i64 fty, .int .u64 (fnum : Int), .slice fda fdl fdc]) _ := ⟨rangeS_keep2 HS.1 hb_ (by omega), rangeS_keep2 HS.2 hb_ (by omega)⟩
           replace HS := HS'
           clear HS'
           replace hby := Below.after hby hb_
           replace hbw := Nat.le_trans hbw hb_.size
           clear hb_
           refine hK_ _ _ HS ?_
           simp only [Act.put, List.getElem_toArray, List.getElem_cons_succ, List.getElem_cons_zero, List.setIfInBounds_toArray, List.set_cons_succ, List.set_cons_zero]
           clear hK_
           refine wpAnyH_take (i := 18) (v := ?v40) rfl (by kernel_rfl) (by kernel_rfl) (by kernel_rfl) (fun _ _ _ h => h) (Or.inl ⟨by rfl, ?y40⟩) HS ?r40
           case y40 =>
            intro w_ hS_
            go_simp
            try with_reducible rfl
           simp only [Act.put, List.getElem_toArray, List.getElem_cons_succ, List.getElem_cons_zero, List.setIfInBounds_toArray, List.set_cons_succ, List.set_cons_zero]
           refine wpAnyH_take (i := 19) (v := ?v41) rfl (by kernel_rfl) (by kernel_rfl) (by kernel_rfl) (fun _ _ _ h => h) (Or.inl ⟨by rfl, ?y41⟩) HS ?r41
           case y41 =>
            intro w_ hS_
            go_simp
            try with_reducible rfl
           simp only [Act.put, List.getElem_toArray, List.getElem_cons_succ, List.getElem_cons_zero, List.setIfInBounds_toArray, List.set_cons_succ, List.set_cons_zero]
           refine wpAnyH_take (i := 20) (v := ?v42) rfl (by kernel_rfl) (by kernel_rfl) (by kernel_rfl) (fun _ _ _ h => h) (Or.inl ⟨by rfl, ?y42⟩) HS ?r42
           case y42 =>
            intro w_ hS_
            go_simp
            try with_reducible rfl
           simp only [Act.put, List.getElem_toArray, List.getElem_cons_succ, List.getElem_cons_zero, List.setIfInBounds_toArray, List.set_cons_succ, List.set_cons_zero]
           refine wpAnyH_one (k := 21) (fuel := 2) (by kernel_rfl) rfl (by kernel_rfl) (fun K_ hK_ => ?_)
           refine wp_world_op (.pointer (some ⟨q20.heap.size, 0, none⟩)) (q20.alloc (.cells #[.int .u64 0, .slice none 0 0, .slice none 0 0] 78)) (by kernel_rfl) ?_
           have hb_ : Below q20.heap.size q20 (q20.alloc (.cells #[.int .u64 0, .slice none 0 0, .slice none 0 0] 78)) := (Below.refl _ _).alloc (Nat.le_refl _) _
           have lo_gX : wr.heap.size ≤ q20.heap.size := hbw
           have lb_gX : y.heap.size ≤ q20.heap.size := hby.size
           have lt_RY_gX := lt_of_row RY
           have lV_gX := lt_of_row RVb
           have RX := hp1_0 q20 (.cells #[.int .u64 0, .slice none 0 0, .slice none 0 0] 78)
           replace RY := keep hb_ RY
           have sz_q21 := hby.size
           replace RVb := keep hb_ RVb
           replace hOp := own_keep_row hOp hb_
           have HS' : (fun W : World => W.rangeAt b (off + k * 5) [.int .i64 no, .int .i64 kd, .int .u64 l, .int .u64 mo, .slice so sn sc] ∧ W.rangeAt fb (k * 4) [.int .i64 fno, .int .i64 fty, .int .u64 (fnum : Int), .slice fda fdl fdc]) _ := ⟨rangeS_keep2 HS.1 hb_ (by omega), rangeS_keep2 HS.2 hb_ (by omega)⟩
           replace HS := HS'
           clear HS'
           replace hby := Below.after hby hb_
           replace hbw := Nat.le_trans hbw hb_.size
           clear hb_
           refine hK_ _ _ HS ?_
           simp only [Act.put, List.getElem_toArray, List.getElem_cons_succ, List.getElem_cons_zero, List.setIfInBounds_toArray, List.set_cons_succ, List.set_cons_zero]
           clear hK_
           generalize q20.alloc (.cells #[.int .u64 0, .slice none 0 0, .slice none 0 0] 78) = q21 at *
           generalize q20.heap.size = gX at *
           refine wpAnyH_one (k := 23) (fuel := 1) (by kernel_rfl) rfl (by kernel_rfl) (fun K_ hK_ => ?_)
           refine wp_store_row 78 _ _ rfl gX #[.int .u64 (fnum : Int), .slice fda fdl fdc, .slice none 0 0] rfl rfl 78 _ RX infoV rfl oneA ?_
           replace RY := (setRow_other q21 gX gY #[.int .u64 (fnum : Int), .slice fda fdl fdc, .slice none 0 0] (by omega)).trans RY
           replace RVb := (setRow_other q21 gX y.heap.size #[.int .u64 (fnum : Int), .slice fda fdl fdc, .slice none 0 0] (by omega)).trans RVb
           replace hOp := own_but hOp (fun q hq => setRow_other q21 gX q #[.int .u64 (fnum : Int), .slice fda fdl fdc, .slice none 0 0] (by have := (hpo q hq).2; omega))
           have HS' : (fun W : World => W.rangeAt b (off + k * 5) [.int .i64 no, .int .i64 kd, .int .u64 l, .int .u64 mo, .slice so sn sc] ∧ W.rangeAt fb (k * 4) [.int .i64 fno, .int .i64 fty, .int .u64 (fnum : Int), .slice fda fdl fdc]) (q21.setRow gX #[.int .u64 (fnum : Int), .slice fda fdl fdc, .slice none 0 0]) := ⟨mv_range HS.1 (setRow_other q21 gX b #[.int .u64 (fnum : Int), .slice fda fdl fdc, .slice none 0 0] (by omega)), mv_range HS.2 (setRow_other q21 gX fb #[.int .u64 (fnum : Int), .slice fda fdl fdc, .slice none 0 0] (by omega))⟩
           replace HS := HS'
           clear HS'
           replace RX := setRow_heap q21 gX _ (#[.int .u64 (fnum : Int), .slice fda fdl fdc, .slice none 0 0]) _ _ RX
           replace hby := below_setRow hby (show y.heap.size ≤ gX by omega) #[.int .u64 (fnum : Int), .slice fda fdl fdc, .slice none 0 0]
           have hse : (q21.setRow gX #[.int .u64 (fnum : Int), .slice fda fdl fdc, .slice none 0 0]).heap.size = q21.heap.size := by simp [World.setRow]
           rw [← hse] at hbw
           clear hse
           refine hK_ _ _ HS ?_
           simp only [Act.put, List.getElem_toArray, List.getElem_cons_succ, List.getElem_cons_zero]
           clear hK_
           generalize q21.setRow gX #[.int .u64 (fnum : Int), .slice fda fdl fdc, .slice none 0 0] = q22 at *
           refine wpAnyH_one (k := 24) (fuel := 0) (by kernel_rfl) rfl (by kernel_rfl) (fun K_ hK_ => ?_)
           refine wp_store_row 35 _ _ rfl gY #[.int .i64 0, .int .i64 0, .int .i64 0] rfl rfl 35 _ RY infoFt rfl oneB ?_
           replace RX := (setRow_other q22 gY gX #[.int .i64 0, .int .i64 0, .int .i64 0] (by omega)).trans RX
           replace RVb := (setRow_other q22 gY y.heap.size #[.int .i64 0, .int .i64 0, .int .i64 0] (by omega)).trans RVb
           replace hOp := own_but hOp (fun q hq => setRow_other q22 gY q #[.int .i64 0, .int .i64 0, .int .i64 0] (by have := (hpo q hq).2; omega))
           have HS' : (fun W : World => W.rangeAt b (off + k * 5) [.int .i64 no, .int .i64 kd, .int .u64 l, .int .u64 mo, .slice so sn sc] ∧ W.rangeAt fb (k * 4) [.int .i64 fno, .int .i64 fty, .int .u64 (fnum : Int), .slice fda fdl fdc]) (q22.setRow gY #[.int .i64 0, .int .i64 0, .int .i64 0]) := ⟨mv_range HS.1 (setRow_other q22 gY b #[.int .i64 0, .int .i64 0, .int .i64 0] (by omega)), mv_range HS.2 (setRow_other q22 gY fb #[.int .i64 0, .int .i64 0, .int .i64 0] (by omega))⟩
           replace HS := HS'
           clear HS'
           replace RY := setRow_heap q22 gY _ (#[.int .i64 0, .int .i64 0, .int .i64 0]) _ _ RY
           replace hby := below_setRow hby (show y.heap.size ≤ gY by omega) #[.int .i64 0, .int .i64 0, .int .i64 0]
           have hse : (q22.setRow gY #[.int .i64 0, .int .i64 0, .int .i64 0]).heap.size = q22.heap.size := by simp [World.setRow]
           rw [← hse] at hbw
           clear hse
           refine hK_ _ _ HS ?_
           simp only [Act.put, List.getElem_toArray, List.getElem_cons_succ, List.getElem_cons_zero]
           clear hK_
           generalize q22.setRow gY #[.int .i64 0, .int .i64 0, .int .i64 0] = q23 at *
           refine wpAnyH_done (by kernel_rfl) ?_ _
           have cW := cell_of_row _ _ 2 _ _ _ RY
           have cP := cell_of_row _ _ 2 _ _ _ RVb
           have NVc := new_cells4 q23 #[.int .u64 (fnum : Int), .slice fda fdl fdc, .slice none 0 0] 78
           have hb_ : Below q23.heap.size q23 (q23.alloc (.cells #[.int .u64 (fnum : Int), .slice fda fdl fdc, .slice none 0 0] 78)) := (Below.refl _ _).alloc (Nat.le_refl _) _
           have lgV := lt_of_row RVb
           have R1 := keep hb_ RVb
           have O1 := own_keep_row hOp hb_
           have B1 := Below.after hby hb_
           replace R1 := hide R1
           replace O1 := hide O1
           replace B1 := hide B1
           clear hb_ HS hOp hby RVb
           obtain ⟨iV, hiV, hiz, his, hib⟩ := infoVI
           go_wp2_with (first | (refine wpList_load_want rfl 78 _ rfl gX rfl 78 #[.int .u64 (fnum : Int), .slice fda fdl fdc, .slice none 0 0] (0, 0) _ RX Tryz.underlying78 rfl infoV ?_) | (at_builtin; refine wpList_plain rfl fun K_ hKp => wp_append_nx _ _ 76 rfl (y.heap.size + 1) 78 iV (.agg #[.int .u64 0, .slice none 0 0, .slice none 0 0]) 3 56 Tryz.underlying76 hiV hiz his hib rfl (by decide) _ k (vrk fs us k) rfl O1.out ⟨q23.heap.size, 0, none⟩ 1 1 [.int .u64 (fnum : Int), .slice fda fdl fdc, .slice none 0 0] rfl rfl NVc (fun x hx => by simp at hx; rcases hx with rfl | rfl | rfl <;> rfl) (by unfold maxLen; omega) (by omega) (by have := B1.out.size; simp; omega) ?_) | fail)
           intro pv' x4 hO4 hgr hnx
           refine hKp _ _ ?_
           clear hKp hnx
           have R4 := (hgr.block y.heap.size (by simp; omega) (fun e => by have := (hpo y.heap.size e.symm).1; omega)).trans R1.out
           have szB1 := B1.out.size
           have B4 := B1.out.grown hgr szB1 (fun z e => by have := (hpo z e).1; omega)
           have hp4 := own_high_row hO4
           obtain ⟨po, pc, rfl⟩ := own_slice hO4
           have R5 := hide (setRow_heap x4 y.heap.size _ (#[.int .u64 0, .slice none 0 0, .slice po (k + 1) pc]) _ _ R4)
           have B5 := hide (below_setRow (g := y.heap.size) B4 (Nat.le_refl _) #[.int .u64 0, .slice none 0 0, .slice po (k + 1) pc])
           have O5 := hide (own_but hO4 (fun q hq => setRow_other x4 y.heap.size q #[.int .u64 0, .slice none 0 0, .slice po (k + 1) pc] (by have := (hp4 q hq).1; omega)))
           clear R1 O1 B1 B4 hO4 hgr NVc cW cP RX RY hp4 szB1
           go_wp2_with (first | (refine wpList_store_cell rfl 76 _ _ rfl y.heap.size 2 (.slice po (k + 1) pc) rfl rfl 78 #[.int .u64 0, .slice none 0 0, .slice pva k pvc] #[.int .u64 0, .slice none 0 0, .slice po (k + 1) pc] R4 (by show 2 < 3; decide) rfl infoVS rfl ?_) | fail)
           refine ⟨⟨k + 1, _, by omega, by omega, by go_num, by rw [hat1.out], by rw [hat1.out]; exact eR.out, R5.out, by rw [hvk.out]; exact O5.out, B5.out⟩, ?_⟩
           simp [intOf]; omega
          ·refine wp_world_op (.pointer (some ⟨q19.heap.size, 0, none⟩)) (q19.alloc (.cells #[.int .u64 0, .slice none 0 0, .slice none 0 0] 78)) (by kernel_rfl) ?_
           have hb_ : Below q19.heap.size q19 (q19.alloc (.cells #[.int .u64 0, .slice none 0 0, .slice none 0 0] 78)) := (Below.refl _ _).alloc (Nat.le_refl _) _
           have lo_gX : wr.heap.size ≤ q19.heap.size := hbw
           have lb_gX : y.heap.size ≤ q19.heap.size := hby.size
           have lt_RY_gX := lt_of_row RY
           have lV_gX := lt_of_row RVb
           have RX := hp1_0 q19 (.cells #[.int .u64 0, .slice none 0 0, .slice none 0 0] 78)
           replace RY := keep hb_ RY
           have sz_q24 := hby.size
           replace RVb := keep hb_ RVb
           replace hOp := own_keep_row hOp hb_
           have HS' : (fun W : World => W.rangeAt b (off + k * 5) [.int .i64 no, .int .i64 kd, .int .u64 l, .int .u64 mo, .slice so sn sc] ∧ W.rangeAt fb (k * 4) [.int .i64 fno, .int .i64 fty, .int .u64 (fnum : Int), .slice fda fdl fdc]) _ := ⟨rangeS_keep2 HS.1 hb_ (by omega), rangeS_keep2 HS.2 hb_ (by omega)⟩
           replace HS := HS'
           clear HS'
           replace hby := Below.after hby hb_
           replace hbw := Nat.le_trans hbw hb_.size
           clear hb_
           refine hK_ _ _ HS ?_
           simp only [Act.put, List.getElem_toArray, List.getElem_cons_succ, List.getElem_cons_zero, List.setIfInBounds_toArray, List.set_cons_succ, List.set_cons_zero]
           clear hK_
           generalize q19.alloc (.cells #[.int .u64 0, .slice none 0 0, .slice none 0 0] 78) = q24 at *
           generalize q19.heap.size = gX at *
           refine wpAnyH_one (k := 17) (fuel := 5) (by kernel_rfl) rfl (by kernel_rfl) (fun K_ hK_ => ?_)
           refine wp_call_ex (f := 94) (R := fun u w' => u = .tuple #[.agg #[.int .u64 (fnum : Int), .slice fda fdl fdc, .slice none 0 0], .agg #[.int .i64 0, .int .i64 0, .int .i64 0]] ∧ Below q24.heap.size q24 w') (by kernel_rfl) (cV.out q24) (fun v_ q25 hX_ => ?_)
           obtain ⟨rfl, hb_⟩ := hX_
           replace RY := keep hb_ RY
           replace RX := keep hb_ RX
           have sz_q25 := hby.size
           replace RVb := keep hb_ RVb
           replace hOp := own_keep_row hOp hb_
           have HS' : (fun W : World => W.rangeAt b (off + k * 5) [.int .i64 no, .int .i64 kd, .int .u64 l, .int .u64 mo, .slice so sn sc] ∧ W.rangeAt fb (k * 4) [.int .i64 fno, .int .i64 fty, .int .u64 (fnum : Int), .slice fda fdl fdc]) _ := ⟨rangeS_keep2 HS.1 hb_ (by omega), rangeS_keep2 HS.2 hb_ (by omega)⟩
           replace HS := HS'
           clear HS'
           replace hby := Below.after hby hb_
           replace hbw := Nat.le_trans hbw hb_.size
           clear hb_
           refine hK_ _ _ HS ?_
           simp only [Act.put, List.getElem_toArray, List.getElem_cons_succ, List.getElem_cons_zero, List.setIfInBounds_toArray, List.set_cons_succ, List.set_cons_zero]
           clear hK_
           refine wpAnyH_take (i := 18) (v := ?v44) rfl (by kernel_rfl) (by kernel_rfl) (by kernel_rfl) (fun _ _ _ h => h) (Or.inl ⟨by rfl, ?y44⟩) HS ?r44
           case y44 =>
            intro w_ hS_
            go_simp
            try with_reducible rfl
           simp only [Act.put, List.getElem_toArray, List.getElem_cons_succ, List.getElem_cons_zero, List.setIfInBounds_toArray, List.set_cons_succ, List.set_cons_zero]
           refine wpAnyH_take (i := 19) (v := ?v45) rfl (by kernel_rfl) (by kernel_rfl) (by kernel_rfl) (fun _ _ _ h => h) (Or.inl ⟨by rfl, ?y45⟩) HS ?r45
           case y45 =>
            intro w_ hS_
            go_simp
            try with_reducible rfl
           simp only [Act.put, List.getElem_toArray, List.getElem_cons_succ, List.getElem_cons_zero, List.setIfInBounds_toArray, List.set_cons_succ, List.set_cons_zero]
           refine wpAnyH_take (i := 20) (v := ?v46) rfl (by kernel_rfl) (by kernel_rfl) (by kernel_rfl) (fun _ _ _ h => h) (Or.inl ⟨by rfl, ?y46⟩) HS ?r46
           case y46 =>
            intro w_ hS_
            go_simp
            try with_reducible rfl
           simp only [Act.put, List.getElem_toArray, List.getElem_cons_succ, List.getElem_cons_zero, List.setIfInBounds_toArray, List.set_cons_succ, List.set_cons_zero]
           refine wpAnyH_one (k := 23) (fuel := 1) (by kernel_rfl) rfl (by kernel_rfl) (fun K_ hK_ => ?_)
           refine wp_store_row 78 _ _ rfl gX #[.int .u64 (fnum : Int), .slice fda fdl fdc, .slice none 0 0] rfl rfl 78 _ RX infoV rfl oneA ?_
           replace RY := (setRow_other q25 gX gY #[.int .u64 (fnum : Int), .slice fda fdl fdc, .slice none 0 0] (by omega)).trans RY
           replace RVb := (setRow_other q25 gX y.heap.size #[.int .u64 (fnum : Int), .slice fda fdl fdc, .slice none 0 0] (by omega)).trans RVb
           replace hOp := own_but hOp (fun q hq => setRow_other q25 gX q #[.int .u64 (fnum : Int), .slice fda fdl fdc, .slice none 0 0] (by have := (hpo q hq).2; omega))
           have HS' : (fun W : World => W.rangeAt b (off + k * 5) [.int .i64 no, .int .i64 kd, .int .u64 l, .int .u64 mo, .slice so sn sc] ∧ W.rangeAt fb (k * 4) [.int .i64 fno, .int .i64 fty, .int .u64 (fnum : Int), .slice fda fdl fdc]) (q25.setRow gX #[.int .u64 (fnum : Int), .slice fda fdl fdc, .slice none 0 0]) := ⟨mv_range HS.1 (setRow_other q25 gX b #[.int .u64 (fnum : Int), .slice fda fdl fdc, .slice none 0 0] (by omega)), mv_range HS.2 (setRow_other q25 gX fb #[.int .u64 (fnum : Int), .slice fda fdl fdc, .slice none 0 0] (by omega))⟩
           replace HS := HS'
           clear HS'
           replace RX := setRow_heap q25 gX _ (#[.int .u64 (fnum : Int), .slice fda fdl fdc, .slice none 0 0]) _ _ RX
           replace hby := below_setRow hby (show y.heap.size ≤ gX by omega) #[.int .u64 (fnum : Int), .slice fda fdl fdc, .slice none 0 0]
           have hse : (q25.setRow gX #[.int .u64 (fnum : Int), .slice fda fdl fdc, .slice none 0 0]).heap.size = q25.heap.size := by simp [World.setRow]
           rw [← hse] at hbw
           clear hse
           refine hK_ _ _ HS ?_
           simp only [Act.put, List.getElem_toArray, List.getElem_cons_succ, List.getElem_cons_zero]
           clear hK_
           generalize q25.setRow gX #[.int .u64 (fnum : Int), .slice fda fdl fdc, .slice none 0 0] = q26 at *
           refine wpAnyH_one (k := 24) (fuel := 0) (by kernel_rfl) rfl (by kernel_rfl) (fun K_ hK_ => ?_)
           refine wp_store_row 35 _ _ rfl gY #[.int .i64 0, .int .i64 0, .int .i64 0] rfl rfl 35 _ RY infoFt rfl oneB ?_
           replace RX := (setRow_other q26 gY gX #[.int .i64 0, .int .i64 0, .int .i64 0] (by omega)).trans RX
           replace RVb := (setRow_other q26 gY y.heap.size #[.int .i64 0, .int .i64 0, .int .i64 0] (by omega)).trans RVb
           replace hOp := own_but hOp (fun q hq => setRow_other q26 gY q #[.int .i64 0, .int .i64 0, .int .i64 0] (by have := (hpo q hq).2; omega))
           have HS' : (fun W : World => W.rangeAt b (off + k * 5) [.int .i64 no, .int .i64 kd, .int .u64 l, .int .u64 mo, .slice so sn sc] ∧ W.rangeAt fb (k * 4) [.int .i64 fno, .int .i64 fty, .int .u64 (fnum : Int), .slice fda fdl fdc]) (q26.setRow gY #[.int .i64 0, .int .i64 0, .int .i64 0]) := ⟨mv_range HS.1 (setRow_other q26 gY b #[.int .i64 0, .int .i64 0, .int .i64 0] (by omega)), mv_range HS.2 (setRow_other q26 gY fb #[.int .i64 0, .int .i64 0, .int .i64 0] (by omega))⟩
           replace HS := HS'
           clear HS'
           replace RY := setRow_heap q26 gY _ (#[.int .i64 0, .int .i64 0, .int .i64 0]) _ _ RY
           replace hby := below_setRow hby (show y.heap.size ≤ gY by omega) #[.int .i64 0, .int .i64 0, .int .i64 0]
           have hse : (q26.setRow gY #[.int .i64 0, .int .i64 0, .int .i64 0]).heap.size = q26.heap.size := by simp [World.setRow]
           rw [← hse] at hbw
           clear hse
           refine hK_ _ _ HS ?_
           simp only [Act.put, List.getElem_toArray, List.getElem_cons_succ, List.getElem_cons_zero]
           clear hK_
           generalize q26.setRow gY #[.int .i64 0, .int .i64 0, .int .i64 0] = q27 at *
           refine wpAnyH_done (by kernel_rfl) ?_ _
           have cW := cell_of_row _ _ 2 _ _ _ RY
           have cP := cell_of_row _ _ 2 _ _ _ RVb
           have NVc := new_cells4 q27 #[.int .u64 (fnum : Int), .slice fda fdl fdc, .slice none 0 0] 78
           have hb_ : Below q27.heap.size q27 (q27.alloc (.cells #[.int .u64 (fnum : Int), .slice fda fdl fdc, .slice none 0 0] 78)) := (Below.refl _ _).alloc (Nat.le_refl _) _
           have lgV := lt_of_row RVb
           have R1 := keep hb_ RVb
           have O1 := own_keep_row hOp hb_
           have B1 := Below.after hby hb_
           replace R1 := hide R1
           replace O1 := hide O1
           replace B1 := hide B1
           clear hb_ HS hOp hby RVb
           obtain ⟨iV, hiV, hiz, his, hib⟩ := infoVI
           go_wp2_with (first | (refine wpList_load_want rfl 78 _ rfl gX rfl 78 #[.int .u64 (fnum : Int), .slice fda fdl fdc, .slice none 0 0] (0, 0) _ RX Tryz.underlying78 rfl infoV ?_) | (at_builtin; refine wpList_plain rfl fun K_ hKp => wp_append_nx _ _ 76 rfl (y.heap.size + 1) 78 iV (.agg #[.int .u64 0, .slice none 0 0, .slice none 0 0]) 3 56 Tryz.underlying76 hiV hiz his hib rfl (by decide) _ k (vrk fs us k) rfl O1.out ⟨q27.heap.size, 0, none⟩ 1 1 [.int .u64 (fnum : Int), .slice fda fdl fdc, .slice none 0 0] rfl rfl NVc (fun x hx => by simp at hx; rcases hx with rfl | rfl | rfl <;> rfl) (by unfold maxLen; omega) (by omega) (by have := B1.out.size; simp; omega) ?_) | fail)
           intro pv' x4 hO4 hgr hnx
           refine hKp _ _ ?_
           clear hKp hnx
           have R4 := (hgr.block y.heap.size (by simp; omega) (fun e => by have := (hpo y.heap.size e.symm).1; omega)).trans R1.out
           have szB1 := B1.out.size
           have B4 := B1.out.grown hgr szB1 (fun z e => by have := (hpo z e).1; omega)
           have hp4 := own_high_row hO4
           obtain ⟨po, pc, rfl⟩ := own_slice hO4
           have R5 := hide (setRow_heap x4 y.heap.size _ (#[.int .u64 0, .slice none 0 0, .slice po (k + 1) pc]) _ _ R4)
           have B5 := hide (below_setRow (g := y.heap.size) B4 (Nat.le_refl _) #[.int .u64 0, .slice none 0 0, .slice po (k + 1) pc])
           have O5 := hide (own_but hO4 (fun q hq => setRow_other x4 y.heap.size q #[.int .u64 0, .slice none 0 0, .slice po (k + 1) pc] (by have := (hp4 q hq).1; omega)))
           clear R1 O1 B1 B4 hO4 hgr NVc cW cP RX RY hp4 szB1
           go_wp2_with (first | (refine wpList_store_cell rfl 76 _ _ rfl y.heap.size 2 (.slice po (k + 1) pc) rfl rfl 78 #[.int .u64 0, .slice none 0 0, .slice pva k pvc] #[.int .u64 0, .slice none 0 0, .slice po (k + 1) pc] R4 (by show 2 < 3; decide) rfl infoVS rfl ?_) | fail)
           refine ⟨⟨k + 1, _, by omega, by omega, by go_num, by rw [hat1.out], by rw [hat1.out]; exact eR.out, R5.out, by rw [hvk.out]; exact O5.out, B5.out⟩, ?_⟩
           simp [intOf]; omega
        ·rw [if_neg hE] at eR
         simp only at eR
         replace eR := hide eR
         have cV := hide (fun V => (r_value no kd l mo k8 k9 so sn sc fno fty fnum fda fdl fdc at_ (EN - (fdl : Int)) E V cPl.out).mono (fun e w' h => (by obtain ⟨v, h1, h2, h3⟩ := h; rw [if_neg hE] at h2; exact ⟨v, h1, h2, h3⟩ : ∃ v, e = .returned v ∧ v = .tuple #[.agg #[.int .u64 0, .slice none 0 0, .slice none 0 0], .agg #[.int .i64 0, .int .i64 at_, .int .i64 E]] ∧ Below V.heap.size V w')))
         have oneA : (#[Value.int .u64 0, .slice none 0 0, .slice none 0 0] : Array Value).all (·.oneCell') = true := by simp [Value.oneCell']
         have oneB : (#[Value.int .i64 0, .int .i64 at_, .int .i64 E] : Array Value).all (·.oneCell') = true := by simp [Value.oneCell']
         have bE : (E != 0) = true := by simpa using hE
         have bE2 : (E == 0) = false := by simpa using hE
         clear cPl
         go_upto_region 16 with (fail)
         rw [qEN.out]
         have hbd : Below a5.heap.size a5 a5.drew := below_drN (Below.refl _ _) 1
         have sz_a6 := hby.size
         replace RVb := keep hbd RVb
         replace hOp := own_keep_row hOp hbd
         have HS' : (fun W : World => W.rangeAt b (off + k * 5) [.int .i64 no, .int .i64 kd, .int .u64 l, .int .u64 mo, .slice so sn sc] ∧ W.rangeAt fb (k * 4) [.int .i64 fno, .int .i64 fty, .int .u64 (fnum : Int), .slice fda fdl fdc]) _ := ⟨rangeS_keep2 HS.1 hbd (by omega), rangeS_keep2 HS.2 hbd (by omega)⟩
         replace HS := HS'
         clear HS'
         replace hby := Below.after hby hbd
         replace hbw := Nat.le_trans hbw hbd.size
         clear hbd
         refine wp_region_held (S := fun W : World => W.rangeAt b (off + k * 5) [.int .i64 no, .int .i64 kd, .int .u64 l, .int .u64 mo, .slice so sn sc] ∧ W.rangeAt fb (k * 4) [.int .i64 fno, .int .i64 fty, .int .u64 (fnum : Int), .slice fda fdl fdc]) (by kernel_rfl) ?_
         change wpAnyH _ _ _ _ _ _ _ _ (World.drew _)
         generalize a5.drew = a6 at *
         refine wpAnyH_take (i := 0) (v := ?v48) rfl (by kernel_rfl) (by kernel_rfl) (by kernel_rfl) (fun _ _ _ h => h) (Or.inl ⟨by rfl, ?y48⟩) HS ?r48
         case y48 =>
          intro w_ hS_
          go_simp
          try with_reducible rfl
         simp only [Act.put, List.getElem_toArray, List.getElem_cons_zero, List.setIfInBounds_toArray, List.set_cons_succ, List.set_cons_zero]
         refine wpAnyH_take (i := 1) (v := ?v49) rfl (by kernel_rfl) (by kernel_rfl) (by kernel_rfl) (fun _ _ _ h => h) (Or.inl ⟨by rfl, ?y49⟩) HS ?r49
         case y49 =>
          intro w_ hS_
          go_simp
          try with_reducible rfl
         simp only [Act.put, List.getElem_toArray, List.getElem_cons_succ, List.getElem_cons_zero, List.setIfInBounds_toArray, List.set_cons_succ, List.set_cons_zero]
         refine wpAnyH_take (i := 2) (v := ?v50) rfl (by kernel_rfl) (by kernel_rfl) (by kernel_rfl) (fun _ _ _ h => h) (Or.inl ⟨by rfl, ?y50⟩) HS ?r50
         case y50 =>
          intro w_ hS_
          go_simp
          try with_reducible rfl
         simp only [Act.put, List.getElem_toArray, List.getElem_cons_succ, List.getElem_cons_zero, List.setIfInBounds_toArray, List.set_cons_succ, List.set_cons_zero]
         refine wpAnyH_take (i := 3) (v := .agg #[.int .i64 no, .int .i64 kd, .int .u64 l, .int .u64 mo, .slice so sn sc]) rfl (by kernel_rfl) (by kernel_rfl) (by kernel_rfl) (fun _ _ _ h => h) (yieldsIf_load_mid (by rfl) 114 _ rfl b (off + k * 5) rfl [.int .i64 no, .int .i64 kd, .int .u64 l, .int .u64 mo, .slice so sn sc] _ (fun _ h => h.1) Tryz.underlying114 rfl infoSlt) HS ?_
         simp only [Act.put, List.getElem_toArray, List.getElem_cons_succ, List.getElem_cons_zero, List.setIfInBounds_toArray, List.set_cons_succ, List.set_cons_zero]
         refine wpAnyH_take (i := 4) (v := ?v52) rfl (by kernel_rfl) (by kernel_rfl) (by kernel_rfl) (fun _ _ _ h => h) (Or.inl ⟨by rfl, ?y52⟩) HS ?r52
         case y52 =>
          intro w_ hS_
          go_simp
          try with_reducible rfl
         simp only [Act.put, List.getElem_toArray, List.getElem_cons_succ, List.getElem_cons_zero, List.setIfInBounds_toArray, List.set_cons_succ, List.set_cons_zero]
         refine wpAnyH_take (i := 5) (v := ?v53) rfl (by kernel_rfl) (by kernel_rfl) (by kernel_rfl) (fun _ _ _ h => h) (Or.inl ⟨by rfl, ?y53⟩) HS ?r53
         case y53 =>
          intro w_ hS_
          go_simp
          try with_reducible rfl
         simp only [Act.put, List.getElem_toArray, List.getElem_cons_succ, List.getElem_cons_zero, List.setIfInBounds_toArray, List.set_cons_succ, List.set_cons_zero]
         refine wpAnyH_take (i := 6) (v := ?v54) rfl (by kernel_rfl) (by kernel_rfl) (by kernel_rfl) (fun _ _ _ h => h) (Or.inl ⟨by rfl, ?y54⟩) HS ?r54
         case y54 =>
          intro w_ hS_
          go_simp
          try with_reducible rfl
         simp only [Act.put, List.getElem_toArray, List.getElem_cons_succ, List.getElem_cons_zero, List.setIfInBounds_toArray, List.set_cons_succ, List.set_cons_zero]
         refine wpAnyH_take (i := 7) (v := .agg #[.int .i64 fno, .int .i64 fty, .int .u64 (fnum : Int), .slice fda fdl fdc]) rfl (by kernel_rfl) (by kernel_rfl) (by kernel_rfl) (fun _ _ _ h => h) (yieldsIf_load_mid (by rfl) 72 _ rfl fb (k * 4) rfl [.int .i64 fno, .int .i64 fty, .int .u64 (fnum : Int), .slice fda fdl fdc] _ (fun _ h => h.2) Tryz.underlying72 rfl infoFi) HS ?_
         simp only [Act.put, List.getElem_toArray, List.getElem_cons_succ, List.getElem_cons_zero, List.setIfInBounds_toArray, List.set_cons_succ, List.set_cons_zero]
         refine wpAnyH_take (i := 8) (v := ?v56) rfl (by kernel_rfl) (by kernel_rfl) (by kernel_rfl) (fun _ _ _ h => h) (Or.inl ⟨by rfl, ?y56⟩) HS ?r56
         case y56 =>
          intro w_ hS_
          go_simp
          try with_reducible rfl
         simp only [Act.put, List.getElem_toArray, List.getElem_cons_succ, List.getElem_cons_zero, List.setIfInBounds_toArray, List.set_cons_succ, List.set_cons_zero]
         refine wpAnyH_take (i := 9) (v := ?v57) rfl (by kernel_rfl) (by kernel_rfl) (by kernel_rfl) (fun _ _ _ h => h) (Or.inl ⟨by rfl, ?y57⟩) HS ?r57
         case y57 =>
          intro w_ hS_
          go_simp
          try with_reducible rfl
         simp only [Act.put, List.getElem_toArray, List.getElem_cons_succ, List.getElem_cons_zero, List.setIfInBounds_toArray, List.set_cons_succ, List.set_cons_zero]
         refine wpAnyH_take (i := 10) (v := ?v58) rfl (by kernel_rfl) (by kernel_rfl) (by kernel_rfl) (fun _ _ _ h => h) (Or.inl ⟨by rfl, ?y58⟩) HS ?r58
         case y58 =>
          intro w_ hS_
          go_simp
          try with_reducible rfl
         simp only [Act.put, List.getElem_toArray, List.getElem_cons_succ, List.getElem_cons_zero, List.setIfInBounds_toArray, List.set_cons_succ, List.set_cons_zero]
         refine wpAnyH_take (i := 11) (v := ?v59) rfl (by kernel_rfl) (by kernel_rfl) (by kernel_rfl) (fun _ _ _ h => h) (Or.inl ⟨by rfl, ?y59⟩) HS ?r59
         case y59 =>
          intro w_ hS_
          go_simp
          try with_reducible rfl
         simp only [Act.put, List.getElem_toArray, List.getElem_cons_succ, List.getElem_cons_zero, List.setIfInBounds_toArray, List.set_cons_succ, List.set_cons_zero]
         refine wpAnyH_take (i := 12) (v := ?v60) rfl (by kernel_rfl) (by kernel_rfl) (by kernel_rfl) (fun _ _ _ h => h) (Or.inl ⟨by rfl, ?y60⟩) HS ?r60
         case y60 =>
          intro w_ hS_
          go_simp
          try with_reducible rfl
         simp only [Act.put, List.getElem_toArray, List.getElem_cons_succ, List.getElem_cons_zero, List.setIfInBounds_toArray, List.set_cons_succ, List.set_cons_zero]
         refine wpAnyH_take (i := 13) (v := ?v61) rfl (by kernel_rfl) (by kernel_rfl) (by kernel_rfl) (fun _ _ _ h => h) (Or.inl ⟨by rfl, ?y61⟩) HS ?r61
         case y61 =>
          intro w_ hS_
          go_simp
          try with_reducible rfl
         simp only [Act.put, List.getElem_toArray, List.getElem_cons_succ, List.getElem_cons_zero, List.setIfInBounds_toArray, List.set_cons_succ, List.set_cons_zero]
         refine wpAnyH_take (i := 14) (v := .slice fda fdl fdc) rfl (by kernel_rfl) (by kernel_rfl) (by kernel_rfl) (fun _ _ _ h => h) (Or.inl ⟨by rfl, ?y62⟩) HS ?r62
         case y62 =>
          intro w_ hS_
          have c_ : w_.cell? ⟨fb, k * 4 + 3, none⟩ = some (.slice fda fdl fdc) := hS_.2 3 _ rfl
          go_simp
          try with_reducible rfl
         simp only [Act.put, List.getElem_toArray, List.getElem_cons_succ, List.getElem_cons_zero, List.setIfInBounds_toArray, List.set_cons_succ, List.set_cons_zero]
         refine wpAnyH_take (i := 15) (v := ?v63) rfl (by kernel_rfl) (by kernel_rfl) (by kernel_rfl) (fun _ _ _ h => h) (Or.inl ⟨by rfl, ?y63⟩) HS ?r63
         case y63 =>
          intro w_ hS_
          go_simp
          try with_reducible rfl
         simp only [Act.put, List.getElem_toArray, List.getElem_cons_succ, List.getElem_cons_zero, List.setIfInBounds_toArray, List.set_cons_succ, List.set_cons_zero]
         refine wpAnyH_take (i := 16) (v := .int .i64 (EN - (fdl : Int))) rfl (by kernel_rfl) (by kernel_rfl) (by kernel_rfl) (fun _ _ _ h => h) (Or.inl ⟨by rfl, ?y64⟩) HS ?r64
         case y64 =>
          intro w_ hS_
          go_simp
          try with_reducible rfl
         simp only [Act.put, List.getElem_toArray, List.getElem_cons_succ, List.getElem_cons_zero, List.setIfInBounds_toArray, List.set_cons_succ, List.set_cons_zero]
         refine wpAnyH_three (j := 17) (k := 21) (l := 22) (fuel := 7) (by kernel_rfl) rfl rfl rfl (by kernel_rfl) (by kernel_rfl) (by kernel_rfl) (fun K_ hK_ => ?_) (fun K_ hK_ => ?_) (fun K_ hK_ => ?_)
         ·refine wp_call_ex (f := 94) (R := fun u w' => u = .tuple #[.agg #[.int .u64 0, .slice none 0 0, .slice none 0 0], .agg #[.int .i64 0, .int .i64 at_, .int .i64 E]] ∧ Below a6.heap.size a6 w') (by kernel_rfl) (cV.out a6) (fun v_ q28 hX_ => ?_)
          obtain ⟨rfl, hb_⟩ := hX_
          have sz_q28 := hby.size
          replace RVb := keep hb_ RVb
          replace hOp := own_keep_row hOp hb_
          have HS' : (fun W : World => W.rangeAt b (off + k * 5) [.int .i64 no, .int .i64 kd, .int .u64 l, .int .u64 mo, .slice so sn sc] ∧ W.rangeAt fb (k * 4) [.int .i64 fno, .int .i64 fty, .int .u64 (fnum : Int), .slice fda fdl fdc]) _ := ⟨rangeS_keep2 HS.1 hb_ (by omega), rangeS_keep2 HS.2 hb_ (by omega)⟩
          replace HS := HS'
          clear HS'
          replace hby := Below.after hby hb_
          replace hbw := Nat.le_trans hbw hb_.size
          clear hb_
          refine hK_ _ _ HS ?_
          simp only [Act.put, List.getElem_toArray, List.getElem_cons_succ, List.getElem_cons_zero, List.setIfInBounds_toArray, List.set_cons_succ, List.set_cons_zero]
          clear hK_
          refine wpAnyH_take (i := 18) (v := ?v65) rfl (by kernel_rfl) (by kernel_rfl) (by kernel_rfl) (fun _ _ _ h => h) (Or.inl ⟨by rfl, ?y65⟩) HS ?r65
          case y65 =>
           intro w_ hS_
           go_simp
           try with_reducible rfl
          simp only [Act.put, List.getElem_toArray, List.getElem_cons_succ, List.getElem_cons_zero, List.setIfInBounds_toArray, List.set_cons_succ, List.set_cons_zero]
          refine wpAnyH_take (i := 19) (v := ?v66) rfl (by kernel_rfl) (by kernel_rfl) (by kernel_rfl) (fun _ _ _ h => h) (Or.inl ⟨by rfl, ?y66⟩) HS ?r66
          case y66 =>
           intro w_ hS_
           go_simp
           try with_reducible rfl
          simp only [Act.put, List.getElem_toArray, List.getElem_cons_succ, List.getElem_cons_zero, List.setIfInBounds_toArray, List.set_cons_succ, List.set_cons_zero]
          refine wpAnyH_take (i := 20) (v := ?v67) rfl (by kernel_rfl) (by kernel_rfl) (by kernel_rfl) (fun _ _ _ h => h) (Or.inl ⟨by rfl, ?y67⟩) HS ?r67
          case y67 =>
           intro w_ hS_
           go_simp
           try with_reducible rfl
          simp only [Act.put, List.getElem_toArray, List.getElem_cons_succ, List.getElem_cons_zero, List.setIfInBounds_toArray, List.set_cons_succ, List.set_cons_zero]
          refine wpAnyH_two (j := 21) (k := 22) (fuel := 3) (by kernel_rfl) rfl rfl (by kernel_rfl) (by kernel_rfl) (fun K_ hK_ => ?_) (fun K_ hK_ => ?_)
          ·refine wp_world_op (.pointer (some ⟨q28.heap.size, 0, none⟩)) (q28.alloc (.cells #[.int .u64 0, .slice none 0 0, .slice none 0 0] 78)) (by kernel_rfl) ?_
           have hb_ : Below q28.heap.size q28 (q28.alloc (.cells #[.int .u64 0, .slice none 0 0, .slice none 0 0] 78)) := (Below.refl _ _).alloc (Nat.le_refl _) _
           have lo_gX : wr.heap.size ≤ q28.heap.size := hbw
           have lb_gX : y.heap.size ≤ q28.heap.size := hby.size
           have lV_gX := lt_of_row RVb
           have RX := hp1_0 q28 (.cells #[.int .u64 0, .slice none 0 0, .slice none 0 0] 78)
           have sz_q29 := hby.size
           replace RVb := keep hb_ RVb
           replace hOp := own_keep_row hOp hb_
           have HS' : (fun W : World => W.rangeAt b (off + k * 5) [.int .i64 no, .int .i64 kd, .int .u64 l, .int .u64 mo, .slice so sn sc] ∧ W.rangeAt fb (k * 4) [.int .i64 fno, .int .i64 fty, .int .u64 (fnum : Int), .slice fda fdl fdc]) _ := ⟨rangeS_keep2 HS.1 hb_ (by omega), rangeS_keep2 HS.2 hb_ (by omega)⟩
           replace HS := HS'
           clear HS'
           replace hby := Below.after hby hb_
           replace hbw := Nat.le_trans hbw hb_.size
           clear hb_
           refine hK_ _ _ HS ?_
           simp only [Act.put, List.getElem_toArray, List.getElem_cons_succ, List.getElem_cons_zero, List.setIfInBounds_toArray, List.set_cons_succ, List.set_cons_zero]
           clear hK_
           generalize q28.alloc (.cells #[.int .u64 0, .slice none 0 0, .slice none 0 0] 78) = q29 at *
           generalize q28.heap.size = gX at *
           refine wpAnyH_one (k := 22) (fuel := 2) (by kernel_rfl) rfl (by kernel_rfl) (fun K_ hK_ => ?_)
           refine wp_world_op (.pointer (some ⟨q29.heap.size, 0, none⟩)) (q29.alloc (.cells #[.int .i64 0, .int .i64 0, .int .i64 0] 35)) (by kernel_rfl) ?_
           have hb_ : Below q29.heap.size q29 (q29.alloc (.cells #[.int .i64 0, .int .i64 0, .int .i64 0] 35)) := (Below.refl _ _).alloc (Nat.le_refl _) _
           have lo_gY : wr.heap.size ≤ q29.heap.size := hbw
           have lb_gY : y.heap.size ≤ q29.heap.size := hby.size
           have lt_RX_gY := lt_of_row RX
           have lV_gY := lt_of_row RVb
           have RY := hp1_0 q29 (.cells #[.int .i64 0, .int .i64 0, .int .i64 0] 35)
           replace RX := keep hb_ RX
           have sz_q30 := hby.size
           replace RVb := keep hb_ RVb
           replace hOp := own_keep_row hOp hb_
           have HS' : (fun W : World => W.rangeAt b (off + k * 5) [.int .i64 no, .int .i64 kd, .int .u64 l, .int .u64 mo, .slice so sn sc] ∧ W.rangeAt fb (k * 4) [.int .i64 fno, .int .i64 fty, .int .u64 (fnum : Int), .slice fda fdl fdc]) _ := ⟨rangeS_keep2 HS.1 hb_ (by omega), rangeS_keep2 HS.2 hb_ (by omega)⟩
           replace HS := HS'
           clear HS'
           replace hby := Below.after hby hb_
           replace hbw := Nat.le_trans hbw hb_.size
           clear hb_
           refine hK_ _ _ HS ?_
           simp only [Act.put, List.getElem_toArray, List.getElem_cons_succ, List.getElem_cons_zero, List.setIfInBounds_toArray, List.set_cons_succ, List.set_cons_zero]
           clear hK_
           generalize q29.alloc (.cells #[.int .i64 0, .int .i64 0, .int .i64 0] 35) = q30 at *
           generalize q29.heap.size = gY at *
           refine wpAnyH_one (k := 23) (fuel := 1) (by kernel_rfl) rfl (by kernel_rfl) (fun K_ hK_ => ?_)
           refine wp_store_row 78 _ _ rfl gX #[.int .u64 0, .slice none 0 0, .slice none 0 0] rfl rfl 78 _ RX infoV rfl oneA ?_
           replace RY := (setRow_other q30 gX gY #[.int .u64 0, .slice none 0 0, .slice none 0 0] (by omega)).trans RY
           replace RVb := (setRow_other q30 gX y.heap.size #[.int .u64 0, .slice none 0 0, .slice none 0 0] (by omega)).trans RVb
           replace hOp := own_but hOp (fun q hq => setRow_other q30 gX q #[.int .u64 0, .slice none 0 0, .slice none 0 0] (by have := (hpo q hq).2; omega))
           have HS' : (fun W : World => W.rangeAt b (off + k * 5) [.int .i64 no, .int .i64 kd, .int .u64 l, .int .u64 mo, .slice so sn sc] ∧ W.rangeAt fb (k * 4) [.int .i64 fno, .int .i64 fty, .int .u64 (fnum : Int), .slice fda fdl fdc]) (q30.setRow gX #[.int .u64 0, .slice none 0 0, .slice none 0 0]) := ⟨mv_range HS.1 (setRow_other q30 gX b #[.int .u64 0, .slice none 0 0, .slice none 0 0] (by omega)), mv_range HS.2 (setRow_other q30 gX fb #[.int .u64 0, .slice none 0 0, .slice none 0 0] (by omega))⟩
           replace HS := HS'
           clear HS'
           replace RX := setRow_heap q30 gX _ (#[.int .u64 0, .slice none 0 0, .slice none 0 0]) _ _ RX
           replace hby := below_setRow hby (show y.heap.size ≤ gX by omega) #[.int .u64 0, .slice none 0 0, .slice none 0 0]
           have hse : (q30.setRow gX #[.int .u64 0, .slice none 0 0, .slice none 0 0]).heap.size = q30.heap.size := by simp [World.setRow]
           rw [← hse] at hbw
           clear hse
           refine hK_ _ _ HS ?_
           simp only [Act.put, List.getElem_toArray, List.getElem_cons_succ, List.getElem_cons_zero]
           clear hK_
           generalize q30.setRow gX #[.int .u64 0, .slice none 0 0, .slice none 0 0] = q31 at *
           refine wpAnyH_one (k := 24) (fuel := 0) (by kernel_rfl) rfl (by kernel_rfl) (fun K_ hK_ => ?_)
           refine wp_store_row 35 _ _ rfl gY #[.int .i64 0, .int .i64 at_, .int .i64 E] rfl rfl 35 _ RY infoFt rfl oneB ?_
           replace RX := (setRow_other q31 gY gX #[.int .i64 0, .int .i64 at_, .int .i64 E] (by omega)).trans RX
           replace RVb := (setRow_other q31 gY y.heap.size #[.int .i64 0, .int .i64 at_, .int .i64 E] (by omega)).trans RVb
           replace hOp := own_but hOp (fun q hq => setRow_other q31 gY q #[.int .i64 0, .int .i64 at_, .int .i64 E] (by have := (hpo q hq).2; omega))
           have HS' : (fun W : World => W.rangeAt b (off + k * 5) [.int .i64 no, .int .i64 kd, .int .u64 l, .int .u64 mo, .slice so sn sc] ∧ W.rangeAt fb (k * 4) [.int .i64 fno, .int .i64 fty, .int .u64 (fnum : Int), .slice fda fdl fdc]) (q31.setRow gY #[.int .i64 0, .int .i64 at_, .int .i64 E]) := ⟨mv_range HS.1 (setRow_other q31 gY b #[.int .i64 0, .int .i64 at_, .int .i64 E] (by omega)), mv_range HS.2 (setRow_other q31 gY fb #[.int .i64 0, .int .i64 at_, .int .i64 E] (by omega))⟩
           replace HS := HS'
           clear HS'
           replace RY := setRow_heap q31 gY _ (#[.int .i64 0, .int .i64 at_, .int .i64 E]) _ _ RY
           replace hby := below_setRow hby (show y.heap.size ≤ gY by omega) #[.int .i64 0, .int .i64 at_, .int .i64 E]
           have hse : (q31.setRow gY #[.int .i64 0, .int .i64 at_, .int .i64 E]).heap.size = q31.heap.size := by simp [World.setRow]
           rw [← hse] at hbw
           clear hse
           refine hK_ _ _ HS ?_
           simp only [Act.put, List.getElem_toArray, List.getElem_cons_succ, List.getElem_cons_zero]
           clear hK_
           generalize q31.setRow gY #[.int .i64 0, .int .i64 at_, .int .i64 E] = q32 at *
           refine wpAnyH_done (by kernel_rfl) ?_ _
           have cW := cell_of_row _ _ 2 _ _ _ RY
           have R6 := (hby.block (w.heap.size) (by omega)).trans R6y.out
           have R7 := (hby.block (w.heap.size + 1) (by omega)).trans R7y.out
           have hW := hw0.out.trans (hby.mono (by omega))
           clear HS hOp RVb hby RX
           have l6 := lt_of_row R6
           have l7 := lt_of_row R7
           go_upto_region 18 with (fail)
           clear cW
           have hbd : Below q32.heap.size q32 q32.drew := below_drN (Below.refl _ _) 1
           replace RY := keep hbd RY
           replace R6 := keep hbd R6
           replace R7 := keep hbd R7
           replace hW := Below.after hW hbd
           clear hbd
           refine wp_region_held (S := fun W : World => W.heap[gY]? = some (.cells #[.int .i64 0, .int .i64 at_, .int .i64 E] 35 (0, 0))) (by kernel_rfl) ?_
           change wpAnyH _ _ _ _ _ _ _ _ (World.drew _)
           generalize q32.drew = z1 at *
           refine wpAnyH_take (i := 0) (v := .agg #[.int .u64 0, .slice none 0 0, .slice none 0 0]) rfl (by kernel_rfl) (by kernel_rfl) (by kernel_rfl) (fun _ _ _ h => h) (Or.inl ⟨by rfl, ?yL68x8⟩) RY ?rL68x8
           case yL68x8 =>
            intro w_ hS_
            go_simp
            try with_reducible rfl
           simp only [Act.put, List.getElem_toArray, List.getElem_cons_zero, List.setIfInBounds_toArray, List.set_cons_succ, List.set_cons_zero]
           refine wpAnyH_take (i := 1) (v := .agg #[.int .i64 0, .int .i64 at_, .int .i64 E]) rfl (by kernel_rfl) (by kernel_rfl) (by kernel_rfl) (fun _ _ _ h => h) (yieldsIf_load_mid (by rfl) 35 _ rfl gY 0 rfl [.int .i64 0, .int .i64 at_, .int .i64 E] _ (fun _ h => range_row ⟨_, h⟩) Tryz.underlying35 rfl infoFt) RY ?_
           simp only [Act.put, List.getElem_toArray, List.getElem_cons_succ, List.getElem_cons_zero, List.setIfInBounds_toArray, List.set_cons_succ, List.set_cons_zero]
           refine wpAnyH_one (k := 2) (fuel := 1) (by kernel_rfl) rfl (by kernel_rfl) (fun K_ hK_ => ?_)
           refine wp_store_row 78 _ _ rfl (w.heap.size) #[.int .u64 0, .slice none 0 0, .slice none 0 0] rfl rfl 78 _ R6 infoV rfl oneV ?_
           replace RY := (setRow_other z1 (w.heap.size) gY #[.int .u64 0, .slice none 0 0, .slice none 0 0] (by omega)).trans RY
           replace R7 := (setRow_other z1 (w.heap.size) (w.heap.size + 1) #[.int .u64 0, .slice none 0 0, .slice none 0 0] (by omega)).trans R7
           replace R6 := setRow_heap z1 (w.heap.size) _ (#[.int .u64 0, .slice none 0 0, .slice none 0 0]) _ _ R6
           replace hW := below_setRow hW (show w.heap.size ≤ w.heap.size by omega) #[.int .u64 0, .slice none 0 0, .slice none 0 0]
           refine hK_ _ _ RY ?_
           simp only [Act.put, List.getElem_toArray, List.getElem_cons_succ, List.getElem_cons_zero]
           clear hK_
           generalize z1.setRow (w.heap.size) #[.int .u64 0, .slice none 0 0, .slice none 0 0] = z2 at *
           refine wpAnyH_one (k := 3) (fuel := 0) (by kernel_rfl) rfl (by kernel_rfl) (fun K_ hK_ => ?_)
           refine wp_store_row 35 _ _ rfl (w.heap.size + 1) #[.int .i64 0, .int .i64 at_, .int .i64 E] rfl rfl 35 _ R7 infoFt rfl oneB ?_
           replace RY := (setRow_other z2 (w.heap.size + 1) gY #[.int .i64 0, .int .i64 at_, .int .i64 E] (by omega)).trans RY
           replace R6 := (setRow_other z2 (w.heap.size + 1) (w.heap.size) #[.int .i64 0, .int .i64 at_, .int .i64 E] (by omega)).trans R6
           replace R7 := setRow_heap z2 (w.heap.size + 1) _ (#[.int .i64 0, .int .i64 at_, .int .i64 E]) _ _ R7
           replace hW := below_setRow hW (show w.heap.size ≤ w.heap.size + 1 by omega) #[.int .i64 0, .int .i64 at_, .int .i64 E]
           refine hK_ _ _ RY ?_
           simp only [Act.put, List.getElem_toArray, List.getElem_cons_succ, List.getElem_cons_zero]
           clear hK_
           refine wpAnyH_done (by kernel_rfl) ?_ _
           go_wp2_with (fail)
           exact bodyPost_ret (v := .tuple #[.agg #[.int .u64 0, .slice none 0 0, .slice none 0 0], .agg #[.int .i64 0, .int .i64 at_, .int .i64 E]]) (results_cell_cell Tryz.results64 _ _ (w.heap.size) (w.heap.size + 1) _ _ _ _ _ _ _ _ rfl R6 Tryz.underlying78 rfl infoV rfl R7 Tryz.underlying35 rfl infoFt) rfl ⟨by unfold DcE; rw [hR.out, eR.out]; rfl, hW⟩
          ·refine wp_world_op (.pointer (some ⟨q28.heap.size, 0, none⟩)) (q28.alloc (.cells #[.int .i64 0, .int .i64 0, .int .i64 0] 35)) (by kernel_rfl) ?_
           have hb_ : Below q28.heap.size q28 (q28.alloc (.cells #[.int .i64 0, .int .i64 0, .int .i64 0] 35)) := (Below.refl _ _).alloc (Nat.le_refl _) _
           have lo_gY : wr.heap.size ≤ q28.heap.size := hbw
           have lb_gY : y.heap.size ≤ q28.heap.size := hby.size
           have lV_gY := lt_of_row RVb
           have RY := hp1_0 q28 (.cells #[.int .i64 0, .int .i64 0, .int .i64 0] 35)
           have sz_q33 := hby.size
           replace RVb := keep hb_ RVb
           replace hOp := own_keep_row hOp hb_
           have HS' : (fun W : World => W.rangeAt b (off + k * 5) [.int .i64 no, .int .i64 kd, .int .u64 l, .int .u64 mo, .slice so sn sc] ∧ W.rangeAt fb (k * 4) [.int .i64 fno, .int .i64 fty, .int .u64 (fnum : Int), .slice fda fdl fdc]) _ := ⟨rangeS_keep2 HS.1 hb_ (by omega), rangeS_keep2 HS.2 hb_ (by omega)⟩
           replace HS := HS'
           clear HS'
           replace hby := Below.after hby hb_
           replace hbw := Nat.le_trans hbw hb_.size
           clear hb_
           refine hK_ _ _ HS ?_
           simp only [Act.put, List.getElem_toArray, List.getElem_cons_succ, List.getElem_cons_zero, List.setIfInBounds_toArray, List.set_cons_succ, List.set_cons_zero]
           clear hK_
           generalize q28.alloc (.cells #[.int .i64 0, .int .i64 0, .int .i64 0] 35) = q33 at *
           generalize q28.heap.size = gY at *
           refine wpAnyH_one (k := 21) (fuel := 2) (by kernel_rfl) rfl (by kernel_rfl) (fun K_ hK_ => ?_)
           refine wp_world_op (.pointer (some ⟨q33.heap.size, 0, none⟩)) (q33.alloc (.cells #[.int .u64 0, .slice none 0 0, .slice none 0 0] 78)) (by kernel_rfl) ?_
           have hb_ : Below q33.heap.size q33 (q33.alloc (.cells #[.int .u64 0, .slice none 0 0, .slice none 0 0] 78)) := (Below.refl _ _).alloc (Nat.le_refl _) _
           have lo_gX : wr.heap.size ≤ q33.heap.size := hbw
           have lb_gX : y.heap.size ≤ q33.heap.size := hby.size
           have lt_RY_gX := lt_of_row RY
           have lV_gX := lt_of_row RVb
           have RX := hp1_0 q33 (.cells #[.int .u64 0, .slice none 0 0, .slice none 0 0] 78)
           replace RY := keep hb_ RY
           have sz_q34 := hby.size
           replace RVb := keep hb_ RVb
           replace hOp := own_keep_row hOp hb_
           have HS' : (fun W : World => W.rangeAt b (off + k * 5) [.int .i64 no, .int .i64 kd, .int .u64 l, .int .u64 mo, .slice so sn sc] ∧ W.rangeAt fb (k * 4) [.int .i64 fno, .int .i64 fty, .int .u64 (fnum : Int), .slice fda fdl fdc]) _ := ⟨rangeS_keep2 HS.1 hb_ (by omega), rangeS_keep2 HS.2 hb_ (by omega)⟩
           replace HS := HS'
           clear HS'
           replace hby := Below.after hby hb_
           replace hbw := Nat.le_trans hbw hb_.size
           clear hb_
           refine hK_ _ _ HS ?_
           simp only [Act.put, List.getElem_toArray, List.getElem_cons_succ, List.getElem_cons_zero, List.setIfInBounds_toArray, List.set_cons_succ, List.set_cons_zero]
           clear hK_
           generalize q33.alloc (.cells #[.int .u64 0, .slice none 0 0, .slice none 0 0] 78) = q34 at *
           generalize q33.heap.size = gX at *
           refine wpAnyH_one (k := 23) (fuel := 1) (by kernel_rfl) rfl (by kernel_rfl) (fun K_ hK_ => ?_)
           refine wp_store_row 78 _ _ rfl gX #[.int .u64 0, .slice none 0 0, .slice none 0 0] rfl rfl 78 _ RX infoV rfl oneA ?_
           replace RY := (setRow_other q34 gX gY #[.int .u64 0, .slice none 0 0, .slice none 0 0] (by omega)).trans RY
           replace RVb := (setRow_other q34 gX y.heap.size #[.int .u64 0, .slice none 0 0, .slice none 0 0] (by omega)).trans RVb
           replace hOp := own_but hOp (fun q hq => setRow_other q34 gX q #[.int .u64 0, .slice none 0 0, .slice none 0 0] (by have := (hpo q hq).2; omega))
           have HS' : (fun W : World => W.rangeAt b (off + k * 5) [.int .i64 no, .int .i64 kd, .int .u64 l, .int .u64 mo, .slice so sn sc] ∧ W.rangeAt fb (k * 4) [.int .i64 fno, .int .i64 fty, .int .u64 (fnum : Int), .slice fda fdl fdc]) (q34.setRow gX #[.int .u64 0, .slice none 0 0, .slice none 0 0]) := ⟨mv_range HS.1 (setRow_other q34 gX b #[.int .u64 0, .slice none 0 0, .slice none 0 0] (by omega)), mv_range HS.2 (setRow_other q34 gX fb #[.int .u64 0, .slice none 0 0, .slice none 0 0] (by omega))⟩
           replace HS := HS'
           clear HS'
           replace RX := setRow_heap q34 gX _ (#[.int .u64 0, .slice none 0 0, .slice none 0 0]) _ _ RX
           replace hby := below_setRow hby (show y.heap.size ≤ gX by omega) #[.int .u64 0, .slice none 0 0, .slice none 0 0]
           have hse : (q34.setRow gX #[.int .u64 0, .slice none 0 0, .slice none 0 0]).heap.size = q34.heap.size := by simp [World.setRow]
           rw [← hse] at hbw
           clear hse
           refine hK_ _ _ HS ?_
           simp only [Act.put, List.getElem_toArray, List.getElem_cons_succ, List.getElem_cons_zero]
           clear hK_
           generalize q34.setRow gX #[.int .u64 0, .slice none 0 0, .slice none 0 0] = q35 at *
           refine wpAnyH_one (k := 24) (fuel := 0) (by kernel_rfl) rfl (by kernel_rfl) (fun K_ hK_ => ?_)
           refine wp_store_row 35 _ _ rfl gY #[.int .i64 0, .int .i64 at_, .int .i64 E] rfl rfl 35 _ RY infoFt rfl oneB ?_
           replace RX := (setRow_other q35 gY gX #[.int .i64 0, .int .i64 at_, .int .i64 E] (by omega)).trans RX
           replace RVb := (setRow_other q35 gY y.heap.size #[.int .i64 0, .int .i64 at_, .int .i64 E] (by omega)).trans RVb
           replace hOp := own_but hOp (fun q hq => setRow_other q35 gY q #[.int .i64 0, .int .i64 at_, .int .i64 E] (by have := (hpo q hq).2; omega))
           have HS' : (fun W : World => W.rangeAt b (off + k * 5) [.int .i64 no, .int .i64 kd, .int .u64 l, .int .u64 mo, .slice so sn sc] ∧ W.rangeAt fb (k * 4) [.int .i64 fno, .int .i64 fty, .int .u64 (fnum : Int), .slice fda fdl fdc]) (q35.setRow gY #[.int .i64 0, .int .i64 at_, .int .i64 E]) := ⟨mv_range HS.1 (setRow_other q35 gY b #[.int .i64 0, .int .i64 at_, .int .i64 E] (by omega)), mv_range HS.2 (setRow_other q35 gY fb #[.int .i64 0, .int .i64 at_, .int .i64 E] (by omega))⟩
           replace HS := HS'
           clear HS'
           replace RY := setRow_heap q35 gY _ (#[.int .i64 0, .int .i64 at_, .int .i64 E]) _ _ RY
           replace hby := below_setRow hby (show y.heap.size ≤ gY by omega) #[.int .i64 0, .int .i64 at_, .int .i64 E]
           have hse : (q35.setRow gY #[.int .i64 0, .int .i64 at_, .int .i64 E]).heap.size = q35.heap.size := by simp [World.setRow]
           rw [← hse] at hbw
           clear hse
           refine hK_ _ _ HS ?_
           simp only [Act.put, List.getElem_toArray, List.getElem_cons_succ, List.getElem_cons_zero]
           clear hK_
           generalize q35.setRow gY #[.int .i64 0, .int .i64 at_, .int .i64 E] = q36 at *
           refine wpAnyH_done (by kernel_rfl) ?_ _
           have cW := cell_of_row _ _ 2 _ _ _ RY
           have R6 := (hby.block (w.heap.size) (by omega)).trans R6y.out
           have R7 := (hby.block (w.heap.size + 1) (by omega)).trans R7y.out
           have hW := hw0.out.trans (hby.mono (by omega))
           clear HS hOp RVb hby RX
           have l6 := lt_of_row R6
           have l7 := lt_of_row R7
           go_upto_region 18 with (fail)
           clear cW
           have hbd : Below q36.heap.size q36 q36.drew := below_drN (Below.refl _ _) 1
           replace RY := keep hbd RY
           replace R6 := keep hbd R6
           replace R7 := keep hbd R7
           replace hW := Below.after hW hbd
           clear hbd
           refine wp_region_held (S := fun W : World => W.heap[gY]? = some (.cells #[.int .i64 0, .int .i64 at_, .int .i64 E] 35 (0, 0))) (by kernel_rfl) ?_
           change wpAnyH _ _ _ _ _ _ _ _ (World.drew _)
           generalize q36.drew = z1 at *
           refine wpAnyH_take (i := 0) (v := .agg #[.int .u64 0, .slice none 0 0, .slice none 0 0]) rfl (by kernel_rfl) (by kernel_rfl) (by kernel_rfl) (fun _ _ _ h => h) (Or.inl ⟨by rfl, ?yL69x8⟩) RY ?rL69x8
           case yL69x8 =>
            intro w_ hS_
            go_simp
            try with_reducible rfl
           simp only [Act.put, List.getElem_toArray, List.getElem_cons_zero, List.setIfInBounds_toArray, List.set_cons_succ, List.set_cons_zero]
           refine wpAnyH_take (i := 1) (v := .agg #[.int .i64 0, .int .i64 at_, .int .i64 E]) rfl (by kernel_rfl) (by kernel_rfl) (by kernel_rfl) (fun _ _ _ h => h) (yieldsIf_load_mid (by rfl) 35 _ rfl gY 0 rfl [.int .i64 0, .int .i64 at_, .int .i64 E] _ (fun _ h => range_row ⟨_, h⟩) Tryz.underlying35 rfl infoFt) RY ?_
           simp only [Act.put, List.getElem_toArray, List.getElem_cons_succ, List.getElem_cons_zero, List.setIfInBounds_toArray, List.set_cons_succ, List.set_cons_zero]
           refine wpAnyH_one (k := 2) (fuel := 1) (by kernel_rfl) rfl (by kernel_rfl) (fun K_ hK_ => ?_)
           refine wp_store_row 78 _ _ rfl (w.heap.size) #[.int .u64 0, .slice none 0 0, .slice none 0 0] rfl rfl 78 _ R6 infoV rfl oneV ?_
           replace RY := (setRow_other z1 (w.heap.size) gY #[.int .u64 0, .slice none 0 0, .slice none 0 0] (by omega)).trans RY
           replace R7 := (setRow_other z1 (w.heap.size) (w.heap.size + 1) #[.int .u64 0, .slice none 0 0, .slice none 0 0] (by omega)).trans R7
           replace R6 := setRow_heap z1 (w.heap.size) _ (#[.int .u64 0, .slice none 0 0, .slice none 0 0]) _ _ R6
           replace hW := below_setRow hW (show w.heap.size ≤ w.heap.size by omega) #[.int .u64 0, .slice none 0 0, .slice none 0 0]
           refine hK_ _ _ RY ?_
           simp only [Act.put, List.getElem_toArray, List.getElem_cons_succ, List.getElem_cons_zero]
           clear hK_
           generalize z1.setRow (w.heap.size) #[.int .u64 0, .slice none 0 0, .slice none 0 0] = z2 at *
           refine wpAnyH_one (k := 3) (fuel := 0) (by kernel_rfl) rfl (by kernel_rfl) (fun K_ hK_ => ?_)
           refine wp_store_row 35 _ _ rfl (w.heap.size + 1) #[.int .i64 0, .int .i64 at_, .int .i64 E] rfl rfl 35 _ R7 infoFt rfl oneB ?_
           replace RY := (setRow_other z2 (w.heap.size + 1) gY #[.int .i64 0, .int .i64 at_, .int .i64 E] (by omega)).trans RY
           replace R6 := (setRow_other z2 (w.heap.size + 1) (w.heap.size) #[.int .i64 0, .int .i64 at_, .int .i64 E] (by omega)).trans R6
           replace R7 := setRow_heap z2 (w.heap.size + 1) _ (#[.int .i64 0, .int .i64 at_, .int .i64 E]) _ _ R7
           replace hW := below_setRow hW (show w.heap.size ≤ w.heap.size + 1 by omega) #[.int .i64 0, .int .i64 at_, .int .i64 E]
           refine hK_ _ _ RY ?_
           simp only [Act.put, List.getElem_toArray, List.getElem_cons_succ, List.getElem_cons_zero]
           clear hK_
           refine wpAnyH_done (by kernel_rfl) ?_ _
           go_wp2_with (fail)
           exact bodyPost_ret (v := .tuple #[.agg #[.int .u64 0, .slice none 0 0, .slice none 0 0], .agg #[.int .i64 0, .int .i64 at_, .int .i64 E]]) (results_cell_cell Tryz.results64 _ _ (w.heap.size) (w.heap.size + 1) _ _ _ _ _ _ _ _ rfl R6 Tryz.underlying78 rfl infoV rfl R7 Tryz.underlying35 rfl infoFt) rfl ⟨by unfold DcE; rw [hR.out, eR.out]; rfl, hW⟩
         ·refine wp_world_op (.pointer (some ⟨a6.heap.size, 0, none⟩)) (a6.alloc (.cells #[.int .u64 0, .slice none 0 0, .slice none 0 0] 78)) (by kernel_rfl) ?_
          have hb_ : Below a6.heap.size a6 (a6.alloc (.cells #[.int .u64 0, .slice none 0 0, .slice none 0 0] 78)) := (Below.refl _ _).alloc (Nat.le_refl _) _
          have lo_gX : wr.heap.size ≤ a6.heap.size := hbw
          have lb_gX : y.heap.size ≤ a6.heap.size := hby.size
          have lV_gX := lt_of_row RVb
          have RX := hp1_0 a6 (.cells #[.int .u64 0, .slice none 0 0, .slice none 0 0] 78)
          have sz_q37 := hby.size
          replace RVb := keep hb_ RVb
          replace hOp := own_keep_row hOp hb_
          have HS' : (fun W : World => W.rangeAt b (off + k * 5) [.int .i64 no, .int .i64 kd, .int .u64 l, .int .u64 mo, .slice so sn sc] ∧ W.rangeAt fb (k * 4) [.int .i64 fno, .int .i64 fty, .int .u64 (fnum : Int), .slice fda fdl fdc]) _ := ⟨rangeS_keep2 HS.1 hb_ (by omega), rangeS_keep2 HS.2 hb_ (by omega)⟩
          replace HS := HS'
          clear HS'
          replace hby := Below.after hby hb_
          replace hbw := Nat.le_trans hbw hb_.size
          clear hb_
          refine hK_ _ _ HS ?_
          simp only [Act.put, List.getElem_toArray, List.getElem_cons_succ, List.getElem_cons_zero, List.setIfInBounds_toArray, List.set_cons_succ, List.set_cons_zero]
          clear hK_
          generalize a6.alloc (.cells #[.int .u64 0, .slice none 0 0, .slice none 0 0] 78) = q37 at *
          generalize a6.heap.size = gX at *
          refine wpAnyH_two (j := 17) (k := 22) (fuel := 6) (by kernel_rfl) rfl rfl (by kernel_rfl) (by kernel_rfl) (fun K_ hK_ => ?_) (fun K_ hK_ => ?_)
          ·refine wp_call_ex (f := 94) (R := fun u w' => u = .tuple #[.agg #[.int .u64 0, .slice none 0 0, .slice none 0 0], .agg #[.int .i64 0, .int .i64 at_, .int .i64 E]] ∧ Below q37.heap.size q37 w') (by kernel_rfl) (cV.out q37) (fun v_ q38 hX_ => ?_)
           obtain ⟨rfl, hb_⟩ := hX_
           replace RX := keep hb_ RX
           have sz_q38 := hby.size
           replace RVb := keep hb_ RVb
           replace hOp := own_keep_row hOp hb_
           have HS' : (fun W : World => W.rangeAt b (off + k * 5) [.int .i64 no, .int .i64 kd, .int .u64 l, .int .u64 mo, .slice so sn sc] ∧ W.rangeAt fb (k * 4) [.int .i64 fno, .int .i64 fty, .int .u64 (fnum : Int), .slice fda fdl fdc]) _ := ⟨rangeS_keep2 HS.1 hb_ (by omega), rangeS_keep2 HS.2 hb_ (by omega)⟩
           replace HS := HS'
           clear HS'
           replace hby := Below.after hby hb_
           replace hbw := Nat.le_trans hbw hb_.size
           clear hb_
           refine hK_ _ _ HS ?_
           simp only [Act.put, List.getElem_toArray, List.getElem_cons_succ, List.getElem_cons_zero, List.setIfInBounds_toArray, List.set_cons_succ, List.set_cons_zero]
           clear hK_
           refine wpAnyH_take (i := 18) (v := ?v70) rfl (by kernel_rfl) (by kernel_rfl) (by kernel_rfl) (fun _ _ _ h => h) (Or.inl ⟨by rfl, ?y70⟩) HS ?r70
           case y70 =>
            intro w_ hS_
            go_simp
            try with_reducible rfl
           simp only [Act.put, List.getElem_toArray, List.getElem_cons_succ, List.getElem_cons_zero, List.setIfInBounds_toArray, List.set_cons_succ, List.set_cons_zero]
           refine wpAnyH_take (i := 19) (v := ?v71) rfl (by kernel_rfl) (by kernel_rfl) (by kernel_rfl) (fun _ _ _ h => h) (Or.inl ⟨by rfl, ?y71⟩) HS ?r71
           case y71 =>
            intro w_ hS_
            go_simp
            try with_reducible rfl
           simp only [Act.put, List.getElem_toArray, List.getElem_cons_succ, List.getElem_cons_zero, List.setIfInBounds_toArray, List.set_cons_succ, List.set_cons_zero]
           refine wpAnyH_take (i := 20) (v := ?v72) rfl (by kernel_rfl) (by kernel_rfl) (by kernel_rfl) (fun _ _ _ h => h) (Or.inl ⟨by rfl, ?y72⟩) HS ?r72
           case y72 =>
            intro w_ hS_
            go_simp
            try with_reducible rfl
           simp only [Act.put, List.getElem_toArray, List.getElem_cons_succ, List.getElem_cons_zero, List.setIfInBounds_toArray, List.set_cons_succ, List.set_cons_zero]
           refine wpAnyH_one (k := 22) (fuel := 2) (by kernel_rfl) rfl (by kernel_rfl) (fun K_ hK_ => ?_)
           refine wp_world_op (.pointer (some ⟨q38.heap.size, 0, none⟩)) (q38.alloc (.cells #[.int .i64 0, .int .i64 0, .int .i64 0] 35)) (by kernel_rfl) ?_
           have hb_ : Below q38.heap.size q38 (q38.alloc (.cells #[.int .i64 0, .int .i64 0, .int .i64 0] 35)) := (Below.refl _ _).alloc (Nat.le_refl _) _
           have lo_gY : wr.heap.size ≤ q38.heap.size := hbw
           have lb_gY : y.heap.size ≤ q38.heap.size := hby.size
           have lt_RX_gY := lt_of_row RX
           have lV_gY := lt_of_row RVb
           have RY := hp1_0 q38 (.cells #[.int .i64 0, .int .i64 0, .int .i64 0] 35)
           replace RX := keep hb_ RX
           have sz_q39 := hby.size
           replace RVb := keep hb_ RVb
           replace hOp := own_keep_row hOp hb_
           have HS' : (fun W : World => W.rangeAt b (off + k * 5) [.int .i64 no, .int .i64 kd, .int .u64 l, .int .u64 mo, .slice so sn sc] ∧ W.rangeAt fb (k * 4) [.int .i64 fno, .int .i64 fty, .int .u64 (fnum : Int), .slice fda fdl fdc]) _ := ⟨rangeS_keep2 HS.1 hb_ (by omega), rangeS_keep2 HS.2 hb_ (by omega)⟩
           replace HS := HS'
           clear HS'
           replace hby := Below.after hby hb_
           replace hbw := Nat.le_trans hbw hb_.size
           clear hb_
           refine hK_ _ _ HS ?_
           simp only [Act.put, List.getElem_toArray, List.getElem_cons_succ, List.getElem_cons_zero, List.setIfInBounds_toArray, List.set_cons_succ, List.set_cons_zero]
           clear hK_
           generalize q38.alloc (.cells #[.int .i64 0, .int .i64 0, .int .i64 0] 35) = q39 at *
           generalize q38.heap.size = gY at *
           refine wpAnyH_one (k := 23) (fuel := 1) (by kernel_rfl) rfl (by kernel_rfl) (fun K_ hK_ => ?_)
           refine wp_store_row 78 _ _ rfl gX #[.int .u64 0, .slice none 0 0, .slice none 0 0] rfl rfl 78 _ RX infoV rfl oneA ?_
           replace RY := (setRow_other q39 gX gY #[.int .u64 0, .slice none 0 0, .slice none 0 0] (by omega)).trans RY
           replace RVb := (setRow_other q39 gX y.heap.size #[.int .u64 0, .slice none 0 0, .slice none 0 0] (by omega)).trans RVb
           replace hOp := own_but hOp (fun q hq => setRow_other q39 gX q #[.int .u64 0, .slice none 0 0, .slice none 0 0] (by have := (hpo q hq).2; omega))
           have HS' : (fun W : World => W.rangeAt b (off + k * 5) [.int .i64 no, .int .i64 kd, .int .u64 l, .int .u64 mo, .slice so sn sc] ∧ W.rangeAt fb (k * 4) [.int .i64 fno, .int .i64 fty, .int .u64 (fnum : Int), .slice fda fdl fdc]) (q39.setRow gX #[.int .u64 0, .slice none 0 0, .slice none 0 0]) := ⟨mv_range HS.1 (setRow_other q39 gX b #[.int .u64 0, .slice none 0 0, .slice none 0 0] (by omega)), mv_range HS.2 (setRow_other q39 gX fb #[.int .u64 0, .slice none 0 0, .slice none 0 0] (by omega))⟩
           replace HS := HS'
           clear HS'
           replace RX := setRow_heap q39 gX _ (#[.int .u64 0, .slice none 0 0, .slice none 0 0]) _ _ RX
           replace hby := below_setRow hby (show y.heap.size ≤ gX by omega) #[.int .u64 0, .slice none 0 0, .slice none 0 0]
           have hse : (q39.setRow gX #[.int .u64 0, .slice none 0 0, .slice none 0 0]).heap.size = q39.heap.size := by simp [World.setRow]
           rw [← hse] at hbw
           clear hse
           refine hK_ _ _ HS ?_
           simp only [Act.put, List.getElem_toArray, List.getElem_cons_succ, List.getElem_cons_zero]
           clear hK_
           generalize q39.setRow gX #[.int .u64 0, .slice none 0 0, .slice none 0 0] = q40 at *
           refine wpAnyH_one (k := 24) (fuel := 0) (by kernel_rfl) rfl (by kernel_rfl) (fun K_ hK_ => ?_)
           refine wp_store_row 35 _ _ rfl gY #[.int .i64 0, .int .i64 at_, .int .i64 E] rfl rfl 35 _ RY infoFt rfl oneB ?_
           replace RX := (setRow_other q40 gY gX #[.int .i64 0, .int .i64 at_, .int .i64 E] (by omega)).trans RX
           replace RVb := (setRow_other q40 gY y.heap.size #[.int .i64 0, .int .i64 at_, .int .i64 E] (by omega)).trans RVb
           replace hOp := own_but hOp (fun q hq => setRow_other q40 gY q #[.int .i64 0, .int .i64 at_, .int .i64 E] (by have := (hpo q hq).2; omega))
           have HS' : (fun W : World => W.rangeAt b (off + k * 5) [.int .i64 no, .int .i64 kd, .int .u64 l, .int .u64 mo, .slice so sn sc] ∧ W.rangeAt fb (k * 4) [.int .i64 fno, .int .i64 fty, .int .u64 (fnum : Int), .slice fda fdl fdc]) (q40.setRow gY #[.int .i64 0, .int .i64 at_, .int .i64 E]) := ⟨mv_range HS.1 (setRow_other q40 gY b #[.int .i64 0, .int .i64 at_, .int .i64 E] (by omega)), mv_range HS.2 (setRow_other q40 gY fb #[.int .i64 0, .int .i64 at_, .int .i64 E] (by omega))⟩
           replace HS := HS'
           clear HS'
           replace RY := setRow_heap q40 gY _ (#[.int .i64 0, .int .i64 at_, .int .i64 E]) _ _ RY
           replace hby := below_setRow hby (show y.heap.size ≤ gY by omega) #[.int .i64 0, .int .i64 at_, .int .i64 E]
           have hse : (q40.setRow gY #[.int .i64 0, .int .i64 at_, .int .i64 E]).heap.size = q40.heap.size := by simp [World.setRow]
           rw [← hse] at hbw
           clear hse
           refine hK_ _ _ HS ?_
           simp only [Act.put, List.getElem_toArray, List.getElem_cons_succ, List.getElem_cons_zero]
           clear hK_
           generalize q40.setRow gY #[.int .i64 0, .int .i64 at_, .int .i64 E] = q41 at *
           refine wpAnyH_done (by kernel_rfl) ?_ _
           have cW := cell_of_row _ _ 2 _ _ _ RY
           have R6 := (hby.block (w.heap.size) (by omega)).trans R6y.out
           have R7 := (hby.block (w.heap.size + 1) (by omega)).trans R7y.out
           have hW := hw0.out.trans (hby.mono (by omega))
           clear HS hOp RVb hby RX
           have l6 := lt_of_row R6
           have l7 := lt_of_row R7
           go_upto_region 18 with (fail)
           clear cW
           have hbd : Below q41.heap.size q41 q41.drew := below_drN (Below.refl _ _) 1
           replace RY := keep hbd RY
           replace R6 := keep hbd R6
           replace R7 := keep hbd R7
           replace hW := Below.after hW hbd
           clear hbd
           refine wp_region_held (S := fun W : World => W.heap[gY]? = some (.cells #[.int .i64 0, .int .i64 at_, .int .i64 E] 35 (0, 0))) (by kernel_rfl) ?_
           change wpAnyH _ _ _ _ _ _ _ _ (World.drew _)
           generalize q41.drew = z1 at *
           refine wpAnyH_take (i := 0) (v := .agg #[.int .u64 0, .slice none 0 0, .slice none 0 0]) rfl (by kernel_rfl) (by kernel_rfl) (by kernel_rfl) (fun _ _ _ h => h) (Or.inl ⟨by rfl, ?yL73x8⟩) RY ?rL73x8
           case yL73x8 =>
            intro w_ hS_
            go_simp
            try with_reducible rfl
           simp only [Act.put, List.getElem_toArray, List.getElem_cons_zero, List.setIfInBounds_toArray, List.set_cons_succ, List.set_cons_zero]
           refine wpAnyH_take (i := 1) (v := .agg #[.int .i64 0, .int .i64 at_, .int .i64 E]) rfl (by kernel_rfl) (by kernel_rfl) (by kernel_rfl) (fun _ _ _ h => h) (yieldsIf_load_mid (by rfl) 35 _ rfl gY 0 rfl [.int .i64 0, .int .i64 at_, .int .i64 E] _ (fun _ h => range_row ⟨_, h⟩) Tryz.underlying35 rfl infoFt) RY ?_
           simp only [Act.put, List.getElem_toArray, List.getElem_cons_succ, List.getElem_cons_zero, List.setIfInBounds_toArray, List.set_cons_succ, List.set_cons_zero]
           refine wpAnyH_one (k := 2) (fuel := 1) (by kernel_rfl) rfl (by kernel_rfl) (fun K_ hK_ => ?_)
           refine wp_store_row 78 _ _ rfl (w.heap.size) #[.int .u64 0, .slice none 0 0, .slice none 0 0] rfl rfl 78 _ R6 infoV rfl oneV ?_
           replace RY := (setRow_other z1 (w.heap.size) gY #[.int .u64 0, .slice none 0 0, .slice none 0 0] (by omega)).trans RY
           replace R7 := (setRow_other z1 (w.heap.size) (w.heap.size + 1) #[.int .u64 0, .slice none 0 0, .slice none 0 0] (by omega)).trans R7
           replace R6 := setRow_heap z1 (w.heap.size) _ (#[.int .u64 0, .slice none 0 0, .slice none 0 0]) _ _ R6
           replace hW := below_setRow hW (show w.heap.size ≤ w.heap.size by omega) #[.int .u64 0, .slice none 0 0, .slice none 0 0]
           refine hK_ _ _ RY ?_
           simp only [Act.put, List.getElem_toArray, List.getElem_cons_succ, List.getElem_cons_zero]
           clear hK_
           generalize z1.setRow (w.heap.size) #[.int .u64 0, .slice none 0 0, .slice none 0 0] = z2 at *
           refine wpAnyH_one (k := 3) (fuel := 0) (by kernel_rfl) rfl (by kernel_rfl) (fun K_ hK_ => ?_)
           refine wp_store_row 35 _ _ rfl (w.heap.size + 1) #[.int .i64 0, .int .i64 at_, .int .i64 E] rfl rfl 35 _ R7 infoFt rfl oneB ?_
           replace RY := (setRow_other z2 (w.heap.size + 1) gY #[.int .i64 0, .int .i64 at_, .int .i64 E] (by omega)).trans RY
           replace R6 := (setRow_other z2 (w.heap.size + 1) (w.heap.size) #[.int .i64 0, .int .i64 at_, .int .i64 E] (by omega)).trans R6
           replace R7 := setRow_heap z2 (w.heap.size + 1) _ (#[.int .i64 0, .int .i64 at_, .int .i64 E]) _ _ R7
           replace hW := below_setRow hW (show w.heap.size ≤ w.heap.size + 1 by omega) #[.int .i64 0, .int .i64 at_, .int .i64 E]
           refine hK_ _ _ RY ?_
           simp only [Act.put, List.getElem_toArray, List.getElem_cons_succ, List.getElem_cons_zero]
           clear hK_
           refine wpAnyH_done (by kernel_rfl) ?_ _
           go_wp2_with (fail)
           exact bodyPost_ret (v := .tuple #[.agg #[.int .u64 0, .slice none 0 0, .slice none 0 0], .agg #[.int .i64 0, .int .i64 at_, .int .i64 E]]) (results_cell_cell Tryz.results64 _ _ (w.heap.size) (w.heap.size + 1) _ _ _ _ _ _ _ _ rfl R6 Tryz.underlying78 rfl infoV rfl R7 Tryz.underlying35 rfl infoFt) rfl ⟨by unfold DcE; rw [hR.out, eR.out]; rfl, hW⟩
          ·refine wp_world_op (.pointer (some ⟨q37.heap.size, 0, none⟩)) (q37.alloc (.cells #[.int .i64 0, .int .i64 0, .int .i64 0] 35)) (by kernel_rfl) ?_
           have hb_ : Below q37.heap.size q37 (q37.alloc (.cells #[.int .i64 0, .int .i64 0, .int .i64 0] 35)) := (Below.refl _ _).alloc (Nat.le_refl _) _
           have lo_gY : wr.heap.size ≤ q37.heap.size := hbw
           have lb_gY : y.heap.size ≤ q37.heap.size := hby.size
           have lt_RX_gY := lt_of_row RX
           have lV_gY := lt_of_row RVb
           have RY := hp1_0 q37 (.cells #[.int .i64 0, .int .i64 0, .int .i64 0] 35)
           replace RX := keep hb_ RX
           have sz_q42 := hby.size
           replace RVb := keep hb_ RVb
           replace hOp := own_keep_row hOp hb_
           have HS' : (fun W : World => W.rangeAt b (off + k * 5) [.int .i64 no, .int .i64 kd, .int .u64 l, .int .u64 mo, .slice so sn sc] ∧ W.rangeAt fb (k * 4) [.int .i64 fno, .int .i64 fty, .int .u64 (fnum : Int), .slice fda fdl fdc]) _ := ⟨rangeS_keep2 HS.1 hb_ (by omega), rangeS_keep2 HS.2 hb_ (by omega)⟩
           replace HS := HS'
           clear HS'
           replace hby := Below.after hby hb_
           replace hbw := Nat.le_trans hbw hb_.size
           clear hb_
           refine hK_ _ _ HS ?_
           simp only [Act.put, List.getElem_toArray, List.getElem_cons_succ, List.getElem_cons_zero, List.setIfInBounds_toArray, List.set_cons_succ, List.set_cons_zero]
           clear hK_
           generalize q37.alloc (.cells #[.int .i64 0, .int .i64 0, .int .i64 0] 35) = q42 at *
           generalize q37.heap.size = gY at *
           refine wpAnyH_one (k := 17) (fuel := 5) (by kernel_rfl) rfl (by kernel_rfl) (fun K_ hK_ => ?_)
           refine wp_call_ex (f := 94) (R := fun u w' => u = .tuple #[.agg #[.int .u64 0, .slice none 0 0, .slice none 0 0], .agg #[.int .i64 0, .int .i64 at_, .int .i64 E]] ∧ Below q42.heap.size q42 w') (by kernel_rfl) (cV.out q42) (fun v_ q43 hX_ => ?_)
           obtain ⟨rfl, hb_⟩ := hX_
           replace RX := keep hb_ RX
           replace RY := keep hb_ RY
           have sz_q43 := hby.size
           replace RVb := keep hb_ RVb
           replace hOp := own_keep_row hOp hb_
           have HS' : (fun W : World => W.rangeAt b (off + k * 5) [.int .i64 no, .int .i64 kd, .int .u64 l, .int .u64 mo, .slice so sn sc] ∧ W.rangeAt fb (k * 4) [.int .i64 fno, .int .i64 fty, .int .u64 (fnum : Int), .slice fda fdl fdc]) _ := ⟨rangeS_keep2 HS.1 hb_ (by omega), rangeS_keep2 HS.2 hb_ (by omega)⟩
           replace HS := HS'
           clear HS'
           replace hby := Below.after hby hb_
           replace hbw := Nat.le_trans hbw hb_.size
           clear hb_
           refine hK_ _ _ HS ?_
           simp only [Act.put, List.getElem_toArray, List.getElem_cons_succ, List.getElem_cons_zero, List.setIfInBounds_toArray, List.set_cons_succ, List.set_cons_zero]
           clear hK_
           refine wpAnyH_take (i := 18) (v := ?v74) rfl (by kernel_rfl) (by kernel_rfl) (by kernel_rfl) (fun _ _ _ h => h) (Or.inl ⟨by rfl, ?y74⟩) HS ?r74
           case y74 =>
            intro w_ hS_
            go_simp
            try with_reducible rfl
           simp only [Act.put, List.getElem_toArray, List.getElem_cons_succ, List.getElem_cons_zero, List.setIfInBounds_toArray, List.set_cons_succ, List.set_cons_zero]
           refine wpAnyH_take (i := 19) (v := ?v75) rfl (by kernel_rfl) (by kernel_rfl) (by kernel_rfl) (fun _ _ _ h => h) (Or.inl ⟨by rfl, ?y75⟩) HS ?r75
           case y75 =>
            intro w_ hS_
            go_simp
            try with_reducible rfl
           simp only [Act.put, List.getElem_toArray, List.getElem_cons_succ, List.getElem_cons_zero, List.setIfInBounds_toArray, List.set_cons_succ, List.set_cons_zero]
           refine wpAnyH_take (i := 20) (v := ?v76) rfl (by kernel_rfl) (by kernel_rfl) (by kernel_rfl) (fun _ _ _ h => h) (Or.inl ⟨by rfl, ?y76⟩) HS ?r76
           case y76 =>
            intro w_ hS_
            go_simp
            try with_reducible rfl
           simp only [Act.put, List.getElem_toArray, List.getElem_cons_succ, List.getElem_cons_zero, List.setIfInBounds_toArray, List.set_cons_succ, List.set_cons_zero]
           refine wpAnyH_one (k := 23) (fuel := 1) (by kernel_rfl) rfl (by kernel_rfl) (fun K_ hK_ => ?_)
           refine wp_store_row 78 _ _ rfl gX #[.int .u64 0, .slice none 0 0, .slice none 0 0] rfl rfl 78 _ RX infoV rfl oneA ?_
           replace RY := (setRow_other q43 gX gY #[.int .u64 0, .slice none 0 0, .slice none 0 0] (by omega)).trans RY
           replace RVb := (setRow_other q43 gX y.heap.size #[.int .u64 0, .slice none 0 0, .slice none 0 0] (by omega)).trans RVb
           replace hOp := own_but hOp (fun q hq => setRow_other q43 gX q #[.int .u64 0, .slice none 0 0, .slice none 0 0] (by have := (hpo q hq).2; omega))
           have HS' : (fun W : World => W.rangeAt b (off + k * 5) [.int .i64 no, .int .i64 kd, .int .u64 l, .int .u64 mo, .slice so sn sc] ∧ W.rangeAt fb (k * 4) [.int .i64 fno, .int .i64 fty, .int .u64 (fnum : Int), .slice fda fdl fdc]) (q43.setRow gX #[.int .u64 0, .slice none 0 0, .slice none 0 0]) := ⟨mv_range HS.1 (setRow_other q43 gX b #[.int .u64 0, .slice none 0 0, .slice none 0 0] (by omega)), mv_range HS.2 (setRow_other q43 gX fb #[.int .u64 0, .slice none 0 0, .slice none 0 0] (by omega))⟩
           replace HS := HS'
           clear HS'
           replace RX := setRow_heap q43 gX _ (#[.int .u64 0, .slice none 0 0, .slice none 0 0]) _ _ RX
           replace hby := below_setRow hby (show y.heap.size ≤ gX by omega) #[.int .u64 0, .slice none 0 0, .slice none 0 0]
           have hse : (q43.setRow gX #[.int .u64 0, .slice none 0 0, .slice none 0 0]).heap.size = q43.heap.size := by simp [World.setRow]
           rw [← hse] at hbw
           clear hse
           refine hK_ _ _ HS ?_
           simp only [Act.put, List.getElem_toArray, List.getElem_cons_succ, List.getElem_cons_zero]
           clear hK_
           generalize q43.setRow gX #[.int .u64 0, .slice none 0 0, .slice none 0 0] = q44 at *
           refine wpAnyH_one (k := 24) (fuel := 0) (by kernel_rfl) rfl (by kernel_rfl) (fun K_ hK_ => ?_)
           refine wp_store_row 35 _ _ rfl gY #[.int .i64 0, .int .i64 at_, .int .i64 E] rfl rfl 35 _ RY infoFt rfl oneB ?_
           replace RX := (setRow_other q44 gY gX #[.int .i64 0, .int .i64 at_, .int .i64 E] (by omega)).trans RX
           replace RVb := (setRow_other q44 gY y.heap.size #[.int .i64 0, .int .i64 at_, .int .i64 E] (by omega)).trans RVb
           replace hOp := own_but hOp (fun q hq => setRow_other q44 gY q #[.int .i64 0, .int .i64 at_, .int .i64 E] (by have := (hpo q hq).2; omega))
           have HS' : (fun W : World => W.rangeAt b (off + k * 5) [.int .i64 no, .int .i64 kd, .int .u64 l, .int .u64 mo, .slice so sn sc] ∧ W.rangeAt fb (k * 4) [.int .i64 fno, .int .i64 fty, .int .u64 (fnum : Int), .slice fda fdl fdc]) (q44.setRow gY #[.int .i64 0, .int .i64 at_, .int .i64 E]) := ⟨mv_range HS.1 (setRow_other q44 gY b #[.int .i64 0, .int .i64 at_, .int .i64 E] (by omega)), mv_range HS.2 (setRow_other q44 gY fb #[.int .i64 0, .int .i64 at_, .int .i64 E] (by omega))⟩
           replace HS := HS'
           clear HS'
           replace RY := setRow_heap q44 gY _ (#[.int .i64 0, .int .i64 at_, .int .i64 E]) _ _ RY
           replace hby := below_setRow hby (show y.heap.size ≤ gY by omega) #[.int .i64 0, .int .i64 at_, .int .i64 E]
           have hse : (q44.setRow gY #[.int .i64 0, .int .i64 at_, .int .i64 E]).heap.size = q44.heap.size := by simp [World.setRow]
           rw [← hse] at hbw
           clear hse
           refine hK_ _ _ HS ?_
           simp only [Act.put, List.getElem_toArray, List.getElem_cons_succ, List.getElem_cons_zero]
           clear hK_
           generalize q44.setRow gY #[.int .i64 0, .int .i64 at_, .int .i64 E] = q45 at *
           refine wpAnyH_done (by kernel_rfl) ?_ _
           have cW := cell_of_row _ _ 2 _ _ _ RY
           have R6 := (hby.block (w.heap.size) (by omega)).trans R6y.out
           have R7 := (hby.block (w.heap.size + 1) (by omega)).trans R7y.out
           have hW := hw0.out.trans (hby.mono (by omega))
           clear HS hOp RVb hby RX
           have l6 := lt_of_row R6
           have l7 := lt_of_row R7
           go_upto_region 18 with (fail)
           clear cW
           have hbd : Below q45.heap.size q45 q45.drew := below_drN (Below.refl _ _) 1
           replace RY := keep hbd RY
           replace R6 := keep hbd R6
           replace R7 := keep hbd R7
           replace hW := Below.after hW hbd
           clear hbd
           refine wp_region_held (S := fun W : World => W.heap[gY]? = some (.cells #[.int .i64 0, .int .i64 at_, .int .i64 E] 35 (0, 0))) (by kernel_rfl) ?_
           change wpAnyH _ _ _ _ _ _ _ _ (World.drew _)
           generalize q45.drew = z1 at *
           refine wpAnyH_take (i := 0) (v := .agg #[.int .u64 0, .slice none 0 0, .slice none 0 0]) rfl (by kernel_rfl) (by kernel_rfl) (by kernel_rfl) (fun _ _ _ h => h) (Or.inl ⟨by rfl, ?yL77x8⟩) RY ?rL77x8
           case yL77x8 =>
            intro w_ hS_
            go_simp
            try with_reducible rfl
           simp only [Act.put, List.getElem_toArray, List.getElem_cons_zero, List.setIfInBounds_toArray, List.set_cons_succ, List.set_cons_zero]
           refine wpAnyH_take (i := 1) (v := .agg #[.int .i64 0, .int .i64 at_, .int .i64 E]) rfl (by kernel_rfl) (by kernel_rfl) (by kernel_rfl) (fun _ _ _ h => h) (yieldsIf_load_mid (by rfl) 35 _ rfl gY 0 rfl [.int .i64 0, .int .i64 at_, .int .i64 E] _ (fun _ h => range_row ⟨_, h⟩) Tryz.underlying35 rfl infoFt) RY ?_
           simp only [Act.put, List.getElem_toArray, List.getElem_cons_succ, List.getElem_cons_zero, List.setIfInBounds_toArray, List.set_cons_succ, List.set_cons_zero]
           refine wpAnyH_one (k := 2) (fuel := 1) (by kernel_rfl) rfl (by kernel_rfl) (fun K_ hK_ => ?_)
           refine wp_store_row 78 _ _ rfl (w.heap.size) #[.int .u64 0, .slice none 0 0, .slice none 0 0] rfl rfl 78 _ R6 infoV rfl oneV ?_
           replace RY := (setRow_other z1 (w.heap.size) gY #[.int .u64 0, .slice none 0 0, .slice none 0 0] (by omega)).trans RY
           replace R7 := (setRow_other z1 (w.heap.size) (w.heap.size + 1) #[.int .u64 0, .slice none 0 0, .slice none 0 0] (by omega)).trans R7
           replace R6 := setRow_heap z1 (w.heap.size) _ (#[.int .u64 0, .slice none 0 0, .slice none 0 0]) _ _ R6
           replace hW := below_setRow hW (show w.heap.size ≤ w.heap.size by omega) #[.int .u64 0, .slice none 0 0, .slice none 0 0]
           refine hK_ _ _ RY ?_
           simp only [Act.put, List.getElem_toArray, List.getElem_cons_succ, List.getElem_cons_zero]
           clear hK_
           generalize z1.setRow (w.heap.size) #[.int .u64 0, .slice none 0 0, .slice none 0 0] = z2 at *
           refine wpAnyH_one (k := 3) (fuel := 0) (by kernel_rfl) rfl (by kernel_rfl) (fun K_ hK_ => ?_)
           refine wp_store_row 35 _ _ rfl (w.heap.size + 1) #[.int .i64 0, .int .i64 at_, .int .i64 E] rfl rfl 35 _ R7 infoFt rfl oneB ?_
           replace RY := (setRow_other z2 (w.heap.size + 1) gY #[.int .i64 0, .int .i64 at_, .int .i64 E] (by omega)).trans RY
           replace R6 := (setRow_other z2 (w.heap.size + 1) (w.heap.size) #[.int .i64 0, .int .i64 at_, .int .i64 E] (by omega)).trans R6
           replace R7 := setRow_heap z2 (w.heap.size + 1) _ (#[.int .i64 0, .int .i64 at_, .int .i64 E]) _ _ R7
           replace hW := below_setRow hW (show w.heap.size ≤ w.heap.size + 1 by omega) #[.int .i64 0, .int .i64 at_, .int .i64 E]
           refine hK_ _ _ RY ?_
           simp only [Act.put, List.getElem_toArray, List.getElem_cons_succ, List.getElem_cons_zero]
           clear hK_
           refine wpAnyH_done (by kernel_rfl) ?_ _
           go_wp2_with (fail)
           exact bodyPost_ret (v := .tuple #[.agg #[.int .u64 0, .slice none 0 0, .slice none 0 0], .agg #[.int .i64 0, .int .i64 at_, .int .i64 E]]) (results_cell_cell Tryz.results64 _ _ (w.heap.size) (w.heap.size + 1) _ _ _ _ _ _ _ _ rfl R6 Tryz.underlying78 rfl infoV rfl R7 Tryz.underlying35 rfl infoFt) rfl ⟨by unfold DcE; rw [hR.out, eR.out]; rfl, hW⟩
         ·refine wp_world_op (.pointer (some ⟨a6.heap.size, 0, none⟩)) (a6.alloc (.cells #[.int .i64 0, .int .i64 0, .int .i64 0] 35)) (by kernel_rfl) ?_
          have hb_ : Below a6.heap.size a6 (a6.alloc (.cells #[.int .i64 0, .int .i64 0, .int .i64 0] 35)) := (Below.refl _ _).alloc (Nat.le_refl _) _
          have lo_gY : wr.heap.size ≤ a6.heap.size := hbw
          have lb_gY : y.heap.size ≤ a6.heap.size := hby.size
          have lV_gY := lt_of_row RVb
          have RY := hp1_0 a6 (.cells #[.int .i64 0, .int .i64 0, .int .i64 0] 35)
          have sz_q46 := hby.size
          replace RVb := keep hb_ RVb
          replace hOp := own_keep_row hOp hb_
          have HS' : (fun W : World => W.rangeAt b (off + k * 5) [.int .i64 no, .int .i64 kd, .int .u64 l, .int .u64 mo, .slice so sn sc] ∧ W.rangeAt fb (k * 4) [.int .i64 fno, .int .i64 fty, .int .u64 (fnum : Int), .slice fda fdl fdc]) _ := ⟨rangeS_keep2 HS.1 hb_ (by omega), rangeS_keep2 HS.2 hb_ (by omega)⟩
          replace HS := HS'
          clear HS'
          replace hby := Below.after hby hb_
          replace hbw := Nat.le_trans hbw hb_.size
          clear hb_
          refine hK_ _ _ HS ?_
          simp only [Act.put, List.getElem_toArray, List.getElem_cons_succ, List.getElem_cons_zero, List.setIfInBounds_toArray, List.set_cons_succ, List.set_cons_zero]
          clear hK_
          generalize a6.alloc (.cells #[.int .i64 0, .int .i64 0, .int .i64 0] 35) = q46 at *
          generalize a6.heap.size = gY at *
          refine wpAnyH_two (j := 17) (k := 21) (fuel := 6) (by kernel_rfl) rfl rfl (by kernel_rfl) (by kernel_rfl) (fun K_ hK_ => ?_) (fun K_ hK_ => ?_)
          ·refine wp_call_ex (f := 94) (R := fun u w' => u = .tuple #[.agg #[.int .u64 0, .slice none 0 0, .slice none 0 0], .agg #[.int .i64 0, .int .i64 at_, .int .i64 E]] ∧ Below q46.heap.size q46 w') (by kernel_rfl) (cV.out q46) (fun v_ q47 hX_ => ?_)
           obtain ⟨rfl, hb_⟩ := hX_
           replace RY := keep hb_ RY
           have sz_q47 := hby.size
           replace RVb := keep hb_ RVb
           replace hOp := own_keep_row hOp hb_
           have HS' : (fun W : World => W.rangeAt b (off + k * 5) [.int .i64 no, .int .i64 kd, .int .u64 l, .int .u64 mo, .slice so sn sc] ∧ W.rangeAt fb (k * 4) [.int .i64 fno, .int .i64 fty, .int .u64 (fnum : Int), .slice fda fdl fdc]) _ := ⟨rangeS_keep2 HS.1 hb_ (by omega), rangeS_keep2 HS.2 hb_ (by omega)⟩
           replace HS := HS'
           clear HS'
           replace hby := Below.after hby hb_
           replace hbw := Nat.le_trans hbw hb_.size
           clear hb_
           refine hK_ _ _ HS ?_
           simp only [Act.put, List.getElem_toArray, List.getElem_cons_succ, List.getElem_cons_zero, List.setIfInBounds_toArray, List.set_cons_succ, List.set_cons_zero]
           clear hK_
           refine wpAnyH_take (i := 18) (v := ?v78) rfl (by kernel_rfl) (by kernel_rfl) (by kernel_rfl) (fun _ _ _ h => h) (Or.inl ⟨by rfl, ?y78⟩) HS ?r78
           case y78 =>
            intro w_ hS_
            go_simp
            try with_reducible rfl
           simp only [Act.put, List.getElem_toArray, List.getElem_cons_succ, List.getElem_cons_zero, List.setIfInBounds_toArray, List.set_cons_succ, List.set_cons_zero]
           refine wpAnyH_take (i := 19) (v := ?v79) rfl (by kernel_rfl) (by kernel_rfl) (by kernel_rfl) (fun _ _ _ h => h) (Or.inl ⟨by rfl, ?y79⟩) HS ?r79
           case y79 =>
            intro w_ hS_
            go_simp
            try with_reducible rfl
           simp only [Act.put, List.getElem_toArray, List.getElem_cons_succ, List.getElem_cons_zero, List.setIfInBounds_toArray, List.set_cons_succ, List.set_cons_zero]
           refine wpAnyH_take (i := 20) (v := ?v80) rfl (by kernel_rfl) (by kernel_rfl) (by kernel_rfl) (fun _ _ _ h => h) (Or.inl ⟨by rfl, ?y80⟩) HS ?r80
           case y80 =>
            intro w_ hS_
            go_simp
            try with_reducible rfl
           simp only [Act.put, List.getElem_toArray, List.getElem_cons_succ, List.getElem_cons_zero, List.setIfInBounds_toArray, List.set_cons_succ, List.set_cons_zero]
           refine wpAnyH_one (k := 21) (fuel := 2) (by kernel_rfl) rfl (by kernel_rfl) (fun K_ hK_ => ?_)
           refine wp_world_op (.pointer (some ⟨q47.heap.size, 0, none⟩)) (q47.alloc (.cells #[.int .u64 0, .slice none 0 0, .slice none 0 0] 78)) (by kernel_rfl) ?_
           have hb_ : Below q47.heap.size q47 (q47.alloc (.cells #[.int .u64 0, .slice none 0 0, .slice none 0 0] 78)) := (Below.refl _ _).alloc (Nat.le_refl _) _
           have lo_gX : wr.heap.size ≤ q47.heap.size := hbw
           have lb_gX : y.heap.size ≤ q47.heap.size := hby.size
           have lt_RY_gX := lt_of_row RY
           have lV_gX := lt_of_row RVb
           have RX := hp1_0 q47 (.cells #[.int .u64 0, .slice none 0 0, .slice none 0 0] 78)
           replace RY := keep hb_ RY
           have sz_q48 := hby.size
           replace RVb := keep hb_ RVb
           replace hOp := own_keep_row hOp hb_
           have HS' : (fun W : World => W.rangeAt b (off + k * 5) [.int .i64 no, .int .i64 kd, .int .u64 l, .int .u64 mo, .slice so sn sc] ∧ W.rangeAt fb (k * 4) [.int .i64 fno, .int .i64 fty, .int .u64 (fnum : Int), .slice fda fdl fdc]) _ := ⟨rangeS_keep2 HS.1 hb_ (by omega), rangeS_keep2 HS.2 hb_ (by omega)⟩
           replace HS := HS'
           clear HS'
           replace hby := Below.after hby hb_
           replace hbw := Nat.le_trans hbw hb_.size
           clear hb_
           refine hK_ _ _ HS ?_
           simp only [Act.put, List.getElem_toArray, List.getElem_cons_succ, List.getElem_cons_zero, List.setIfInBounds_toArray, List.set_cons_succ, List.set_cons_zero]
           clear hK_
           generalize q47.alloc (.cells #[.int .u64 0, .slice none 0 0, .slice none 0 0] 78) = q48 at *
           generalize q47.heap.size = gX at *
           refine wpAnyH_one (k := 23) (fuel := 1) (by kernel_rfl) rfl (by kernel_rfl) (fun K_ hK_ => ?_)
           refine wp_store_row 78 _ _ rfl gX #[.int .u64 0, .slice none 0 0, .slice none 0 0] rfl rfl 78 _ RX infoV rfl oneA ?_
           replace RY := (setRow_other q48 gX gY #[.int .u64 0, .slice none 0 0, .slice none 0 0] (by omega)).trans RY
           replace RVb := (setRow_other q48 gX y.heap.size #[.int .u64 0, .slice none 0 0, .slice none 0 0] (by omega)).trans RVb
           replace hOp := own_but hOp (fun q hq => setRow_other q48 gX q #[.int .u64 0, .slice none 0 0, .slice none 0 0] (by have := (hpo q hq).2; omega))
           have HS' : (fun W : World => W.rangeAt b (off + k * 5) [.int .i64 no, .int .i64 kd, .int .u64 l, .int .u64 mo, .slice so sn sc] ∧ W.rangeAt fb (k * 4) [.int .i64 fno, .int .i64 fty, .int .u64 (fnum : Int), .slice fda fdl fdc]) (q48.setRow gX #[.int .u64 0, .slice none 0 0, .slice none 0 0]) := ⟨mv_range HS.1 (setRow_other q48 gX b #[.int .u64 0, .slice none 0 0, .slice none 0 0] (by omega)), mv_range HS.2 (setRow_other q48 gX fb #[.int .u64 0, .slice none 0 0, .slice none 0 0] (by omega))⟩
           replace HS := HS'
           clear HS'
           replace RX := setRow_heap q48 gX _ (#[.int .u64 0, .slice none 0 0, .slice none 0 0]) _ _ RX
           replace hby := below_setRow hby (show y.heap.size ≤ gX by omega) #[.int .u64 0, .slice none 0 0, .slice none 0 0]
           have hse : (q48.setRow gX #[.int .u64 0, .slice none 0 0, .slice none 0 0]).heap.size = q48.heap.size := by simp [World.setRow]
           rw [← hse] at hbw
           clear hse
           refine hK_ _ _ HS ?_
           simp only [Act.put, List.getElem_toArray, List.getElem_cons_succ, List.getElem_cons_zero]
           clear hK_
           generalize q48.setRow gX #[.int .u64 0, .slice none 0 0, .slice none 0 0] = q49 at *
           refine wpAnyH_one (k := 24) (fuel := 0) (by kernel_rfl) rfl (by kernel_rfl) (fun K_ hK_ => ?_)
           refine wp_store_row 35 _ _ rfl gY #[.int .i64 0, .int .i64 at_, .int .i64 E] rfl rfl 35 _ RY infoFt rfl oneB ?_
           replace RX := (setRow_other q49 gY gX #[.int .i64 0, .int .i64 at_, .int .i64 E] (by omega)).trans RX
           replace RVb := (setRow_other q49 gY y.heap.size #[.int .i64 0, .int .i64 at_, .int .i64 E] (by omega)).trans RVb
           replace hOp := own_but hOp (fun q hq => setRow_other q49 gY q #[.int .i64 0, .int .i64 at_, .int .i64 E] (by have := (hpo q hq).2; omega))
           have HS' : (fun W : World => W.rangeAt b (off + k * 5) [.int .i64 no, .int .i64 kd, .int .u64 l, .int .u64 mo, .slice so sn sc] ∧ W.rangeAt fb (k * 4) [.int .i64 fno, .int .i64 fty, .int .u64 (fnum : Int), .slice fda fdl fdc]) (q49.setRow gY #[.int .i64 0, .int .i64 at_, .int .i64 E]) := ⟨mv_range HS.1 (setRow_other q49 gY b #[.int .i64 0, .int .i64 at_, .int .i64 E] (by omega)), mv_range HS.2 (setRow_other q49 gY fb #[.int .i64 0, .int .i64 at_, .int .i64 E] (by omega))⟩
           replace HS := HS'
           clear HS'
           replace RY := setRow_heap q49 gY _ (#[.int .i64 0, .int .i64 at_, .int .i64 E]) _ _ RY
           replace hby := below_setRow hby (show y.heap.size ≤ gY by omega) #[.int .i64 0, .int .i64 at_, .int .i64 E]
           have hse : (q49.setRow gY #[.int .i64 0, .int .i64 at_, .int .i64 E]).heap.size = q49.heap.size := by simp [World.setRow]
           rw [← hse] at hbw
           clear hse
           refine hK_ _ _ HS ?_
           simp only [Act.put, List.getElem_toArray, List.getElem_cons_succ, List.getElem_cons_zero]
           clear hK_
           generalize q49.setRow gY #[.int .i64 0, .int .i64 at_, .int .i64 E] = q50 at *
           refine wpAnyH_done (by kernel_rfl) ?_ _
           have cW := cell_of_row _ _ 2 _ _ _ RY
           have R6 := (hby.block (w.heap.size) (by omega)).trans R6y.out
           have R7 := (hby.block (w.heap.size + 1) (by omega)).trans R7y.out
           have hW := hw0.out.trans (hby.mono (by omega))
           clear HS hOp RVb hby RX
           have l6 := lt_of_row R6
           have l7 := lt_of_row R7
           go_upto_region 18 with (fail)
           clear cW
           have hbd : Below q50.heap.size q50 q50.drew := below_drN (Below.refl _ _) 1
           replace RY := keep hbd RY
           replace R6 := keep hbd R6
           replace R7 := keep hbd R7
           replace hW := Below.after hW hbd
           clear hbd
           refine wp_region_held (S := fun W : World => W.heap[gY]? = some (.cells #[.int .i64 0, .int .i64 at_, .int .i64 E] 35 (0, 0))) (by kernel_rfl) ?_
           change wpAnyH _ _ _ _ _ _ _ _ (World.drew _)
           generalize q50.drew = z1 at *
           refine wpAnyH_take (i := 0) (v := .agg #[.int .u64 0, .slice none 0 0, .slice none 0 0]) rfl (by kernel_rfl) (by kernel_rfl) (by kernel_rfl) (fun _ _ _ h => h) (Or.inl ⟨by rfl, ?yL81x8⟩) RY ?rL81x8
           case yL81x8 =>
            intro w_ hS_
            go_simp
            try with_reducible rfl
           simp only [Act.put, List.getElem_toArray, List.getElem_cons_zero, List.setIfInBounds_toArray, List.set_cons_succ, List.set_cons_zero]
           refine wpAnyH_take (i := 1) (v := .agg #[.int .i64 0, .int .i64 at_, .int .i64 E]) rfl (by kernel_rfl) (by kernel_rfl) (by kernel_rfl) (fun _ _ _ h => h) (yieldsIf_load_mid (by rfl) 35 _ rfl gY 0 rfl [.int .i64 0, .int .i64 at_, .int .i64 E] _ (fun _ h => range_row ⟨_, h⟩) Tryz.underlying35 rfl infoFt) RY ?_
           simp only [Act.put, List.getElem_toArray, List.getElem_cons_succ, List.getElem_cons_zero, List.setIfInBounds_toArray, List.set_cons_succ, List.set_cons_zero]
           refine wpAnyH_one (k := 2) (fuel := 1) (by kernel_rfl) rfl (by kernel_rfl) (fun K_ hK_ => ?_)
           refine wp_store_row 78 _ _ rfl (w.heap.size) #[.int .u64 0, .slice none 0 0, .slice none 0 0] rfl rfl 78 _ R6 infoV rfl oneV ?_
           replace RY := (setRow_other z1 (w.heap.size) gY #[.int .u64 0, .slice none 0 0, .slice none 0 0] (by omega)).trans RY
           replace R7 := (setRow_other z1 (w.heap.size) (w.heap.size + 1) #[.int .u64 0, .slice none 0 0, .slice none 0 0] (by omega)).trans R7
           replace R6 := setRow_heap z1 (w.heap.size) _ (#[.int .u64 0, .slice none 0 0, .slice none 0 0]) _ _ R6
           replace hW := below_setRow hW (show w.heap.size ≤ w.heap.size by omega) #[.int .u64 0, .slice none 0 0, .slice none 0 0]
           refine hK_ _ _ RY ?_
           simp only [Act.put, List.getElem_toArray, List.getElem_cons_succ, List.getElem_cons_zero]
           clear hK_
           generalize z1.setRow (w.heap.size) #[.int .u64 0, .slice none 0 0, .slice none 0 0] = z2 at *
           refine wpAnyH_one (k := 3) (fuel := 0) (by kernel_rfl) rfl (by kernel_rfl) (fun K_ hK_ => ?_)
           refine wp_store_row 35 _ _ rfl (w.heap.size + 1) #[.int .i64 0, .int .i64 at_, .int .i64 E] rfl rfl 35 _ R7 infoFt rfl oneB ?_
           replace RY := (setRow_other z2 (w.heap.size + 1) gY #[.int .i64 0, .int .i64 at_, .int .i64 E] (by omega)).trans RY
           replace R6 := (setRow_other z2 (w.heap.size + 1) (w.heap.size) #[.int .i64 0, .int .i64 at_, .int .i64 E] (by omega)).trans R6
           replace R7 := setRow_heap z2 (w.heap.size + 1) _ (#[.int .i64 0, .int .i64 at_, .int .i64 E]) _ _ R7
           replace hW := below_setRow hW (show w.heap.size ≤ w.heap.size + 1 by omega) #[.int .i64 0, .int .i64 at_, .int .i64 E]
           refine hK_ _ _ RY ?_
           simp only [Act.put, List.getElem_toArray, List.getElem_cons_succ, List.getElem_cons_zero]
           clear hK_
           refine wpAnyH_done (by kernel_rfl) ?_ _
           go_wp2_with (fail)
           exact bodyPost_ret (v := .tuple #[.agg #[.int .u64 0, .slice none 0 0, .slice none 0 0], .agg #[.int .i64 0, .int .i64 at_, .int .i64 E]]) (results_cell_cell Tryz.results64 _ _ (w.heap.size) (w.heap.size + 1) _ _ _ _ _ _ _ _ rfl R6 Tryz.underlying78 rfl infoV rfl R7 Tryz.underlying35 rfl infoFt) rfl ⟨by unfold DcE; rw [hR.out, eR.out]; rfl, hW⟩
          ·refine wp_world_op (.pointer (some ⟨q46.heap.size, 0, none⟩)) (q46.alloc (.cells #[.int .u64 0, .slice none 0 0, .slice none 0 0] 78)) (by kernel_rfl) ?_
           have hb_ : Below q46.heap.size q46 (q46.alloc (.cells #[.int .u64 0, .slice none 0 0, .slice none 0 0] 78)) := (Below.refl _ _).alloc (Nat.le_refl _) _
           have lo_gX : wr.heap.size ≤ q46.heap.size := hbw
           have lb_gX : y.heap.size ≤ q46.heap.size := hby.size
           have lt_RY_gX := lt_of_row RY
           have lV_gX := lt_of_row RVb
           have RX := hp1_0 q46 (.cells #[.int .u64 0, .slice none 0 0, .slice none 0 0] 78)
           replace RY := keep hb_ RY
           have sz_q51 := hby.size
           replace RVb := keep hb_ RVb
           replace hOp := own_keep_row hOp hb_
           have HS' : (fun W : World => W.rangeAt b (off + k * 5) [.int .i64 no, .int .i64 kd, .int .u64 l, .int .u64 mo, .slice so sn sc] ∧ W.rangeAt fb (k * 4) [.int .i64 fno, .int .i64 fty, .int .u64 (fnum : Int), .slice fda fdl fdc]) _ := ⟨rangeS_keep2 HS.1 hb_ (by omega), rangeS_keep2 HS.2 hb_ (by omega)⟩
           replace HS := HS'
           clear HS'
           replace hby := Below.after hby hb_
           replace hbw := Nat.le_trans hbw hb_.size
           clear hb_
           refine hK_ _ _ HS ?_
           simp only [Act.put, List.getElem_toArray, List.getElem_cons_succ, List.getElem_cons_zero, List.setIfInBounds_toArray, List.set_cons_succ, List.set_cons_zero]
           clear hK_
           generalize q46.alloc (.cells #[.int .u64 0, .slice none 0 0, .slice none 0 0] 78) = q51 at *
           generalize q46.heap.size = gX at *
           refine wpAnyH_one (k := 17) (fuel := 5) (by kernel_rfl) rfl (by kernel_rfl) (fun K_ hK_ => ?_)
           refine wp_call_ex (f := 94) (R := fun u w' => u = .tuple #[.agg #[.int .u64 0, .slice none 0 0, .slice none 0 0], .agg #[.int .i64 0, .int .i64 at_, .int .i64 E]] ∧ Below q51.heap.size q51 w') (by kernel_rfl) (cV.out q51) (fun v_ q52 hX_ => ?_)
           obtain ⟨rfl, hb_⟩ := hX_
           replace RY := keep hb_ RY
           replace RX := keep hb_ RX
           have sz_q52 := hby.size
           replace RVb := keep hb_ RVb
           replace hOp := own_keep_row hOp hb_
           have HS' : (fun W : World => W.rangeAt b (off + k * 5) [.int .i64 no, .int .i64 kd, .int .u64 l, .int .u64 mo, .slice so sn sc] ∧ W.rangeAt fb (k * 4) [.int .i64 fno, .int .i64 fty, .int .u64 (fnum : Int), .slice fda fdl fdc]) _ := ⟨rangeS_keep2 HS.1 hb_ (by omega), rangeS_keep2 HS.2 hb_ (by omega)⟩
           replace HS := HS'
           clear HS'
           replace hby := Below.after hby hb_
           replace hbw := Nat.le_trans hbw hb_.size
           clear hb_
           refine hK_ _ _ HS ?_
           simp only [Act.put, List.getElem_toArray, List.getElem_cons_succ, List.getElem_cons_zero, List.setIfInBounds_toArray, List.set_cons_succ, List.set_cons_zero]
           clear hK_
           refine wpAnyH_take (i := 18) (v := ?v82) rfl (by kernel_rfl) (by kernel_rfl) (by kernel_rfl) (fun _ _ _ h => h) (Or.inl ⟨by rfl, ?y82⟩) HS ?r82
           case y82 =>
            intro w_ hS_
            go_simp
            try with_reducible rfl
           simp only [Act.put, List.getElem_toArray, List.getElem_cons_succ, List.getElem_cons_zero, List.setIfInBounds_toArray, List.set_cons_succ, List.set_cons_zero]
           refine wpAnyH_take (i := 19) (v := ?v83) rfl (by kernel_rfl) (by kernel_rfl) (by kernel_rfl) (fun _ _ _ h => h) (Or.inl ⟨by rfl, ?y83⟩) HS ?r83
           case y83 =>
            intro w_ hS_
            go_simp
            try with_reducible rfl
           simp only [Act.put, List.getElem_toArray, List.getElem_cons_succ, List.getElem_cons_zero, List.setIfInBounds_toArray, List.set_cons_succ, List.set_cons_zero]
           refine wpAnyH_take (i := 20) (v := ?v84) rfl (by kernel_rfl) (by kernel_rfl) (by kernel_rfl) (fun _ _ _ h => h) (Or.inl ⟨by rfl, ?y84⟩) HS ?r84
           case y84 =>
            intro w_ hS_
            go_simp
            try with_reducible rfl
           simp only [Act.put, List.getElem_toArray, List.getElem_cons_succ, List.getElem_cons_zero, List.setIfInBounds_toArray, List.set_cons_succ, List.set_cons_zero]
           refine wpAnyH_one (k := 23) (fuel := 1) (by kernel_rfl) rfl (by kernel_rfl) (fun K_ hK_ => ?_)
           refine wp_store_row 78 _ _ rfl gX #[.int .u64 0, .slice none 0 0, .slice none 0 0] rfl rfl 78 _ RX infoV rfl oneA ?_
           replace RY := (setRow_other q52 gX gY #[.int .u64 0, .slice none 0 0, .slice none 0 0] (by omega)).trans RY
           replace RVb := (setRow_other q52 gX y.heap.size #[.int .u64 0, .slice none 0 0, .slice none 0 0] (by omega)).trans RVb
           replace hOp := own_but hOp (fun q hq => setRow_other q52 gX q #[.int .u64 0, .slice none 0 0, .slice none 0 0] (by have := (hpo q hq).2; omega))
           have HS' : (fun W : World => W.rangeAt b (off + k * 5) [.int .i64 no, .int .i64 kd, .int .u64 l, .int .u64 mo, .slice so sn sc] ∧ W.rangeAt fb (k * 4) [.int .i64 fno, .int .i64 fty, .int .u64 (fnum : Int), .slice fda fdl fdc]) (q52.setRow gX #[.int .u64 0, .slice none 0 0, .slice none 0 0]) := ⟨mv_range HS.1 (setRow_other q52 gX b #[.int .u64 0, .slice none 0 0, .slice none 0 0] (by omega)), mv_range HS.2 (setRow_other q52 gX fb #[.int .u64 0, .slice none 0 0, .slice none 0 0] (by omega))⟩
           replace HS := HS'
           clear HS'
           replace RX := setRow_heap q52 gX _ (#[.int .u64 0, .slice none 0 0, .slice none 0 0]) _ _ RX
           replace hby := below_setRow hby (show y.heap.size ≤ gX by omega) #[.int .u64 0, .slice none 0 0, .slice none 0 0]
           have hse : (q52.setRow gX #[.int .u64 0, .slice none 0 0, .slice none 0 0]).heap.size = q52.heap.size := by simp [World.setRow]
           rw [← hse] at hbw
           clear hse
           refine hK_ _ _ HS ?_
           simp only [Act.put, List.getElem_toArray, List.getElem_cons_succ, List.getElem_cons_zero]
           clear hK_
           generalize q52.setRow gX #[.int .u64 0, .slice none 0 0, .slice none 0 0] = q53 at *
           refine wpAnyH_one (k := 24) (fuel := 0) (by kernel_rfl) rfl (by kernel_rfl) (fun K_ hK_ => ?_)
           refine wp_store_row 35 _ _ rfl gY #[.int .i64 0, .int .i64 at_, .int .i64 E] rfl rfl 35 _ RY infoFt rfl oneB ?_
           replace RX := (setRow_other q53 gY gX #[.int .i64 0, .int .i64 at_, .int .i64 E] (by omega)).trans RX
           replace RVb := (setRow_other q53 gY y.heap.size #[.int .i64 0, .int .i64 at_, .int .i64 E] (by omega)).trans RVb
           replace hOp := own_but hOp (fun q hq => setRow_other q53 gY q #[.int .i64 0, .int .i64 at_, .int .i64 E] (by have := (hpo q hq).2; omega))
           have HS' : (fun W : World => W.rangeAt b (off + k * 5) [.int .i64 no, .int .i64 kd, .int .u64 l, .int .u64 mo, .slice so sn sc] ∧ W.rangeAt fb (k * 4) [.int .i64 fno, .int .i64 fty, .int .u64 (fnum : Int), .slice fda fdl fdc]) (q53.setRow gY #[.int .i64 0, .int .i64 at_, .int .i64 E]) := ⟨mv_range HS.1 (setRow_other q53 gY b #[.int .i64 0, .int .i64 at_, .int .i64 E] (by omega)), mv_range HS.2 (setRow_other q53 gY fb #[.int .i64 0, .int .i64 at_, .int .i64 E] (by omega))⟩
           replace HS := HS'
           clear HS'
           replace RY := setRow_heap q53 gY _ (#[.int .i64 0, .int .i64 at_, .int .i64 E]) _ _ RY
           replace hby := below_setRow hby (show y.heap.size ≤ gY by omega) #[.int .i64 0, .int .i64 at_, .int .i64 E]
           have hse : (q53.setRow gY #[.int .i64 0, .int .i64 at_, .int .i64 E]).heap.size = q53.heap.size := by simp [World.setRow]
           rw [← hse] at hbw
           clear hse
           refine hK_ _ _ HS ?_
           simp only [Act.put, List.getElem_toArray, List.getElem_cons_succ, List.getElem_cons_zero]
           clear hK_
           generalize q53.setRow gY #[.int .i64 0, .int .i64 at_, .int .i64 E] = q54 at *
           refine wpAnyH_done (by kernel_rfl) ?_ _
           have cW := cell_of_row _ _ 2 _ _ _ RY
           have R6 := (hby.block (w.heap.size) (by omega)).trans R6y.out
           have R7 := (hby.block (w.heap.size + 1) (by omega)).trans R7y.out
           have hW := hw0.out.trans (hby.mono (by omega))
           clear HS hOp RVb hby RX
           have l6 := lt_of_row R6
           have l7 := lt_of_row R7
           go_upto_region 18 with (fail)
           clear cW
           have hbd : Below q54.heap.size q54 q54.drew := below_drN (Below.refl _ _) 1
           replace RY := keep hbd RY
           replace R6 := keep hbd R6
           replace R7 := keep hbd R7
           replace hW := Below.after hW hbd
           clear hbd
           refine wp_region_held (S := fun W : World => W.heap[gY]? = some (.cells #[.int .i64 0, .int .i64 at_, .int .i64 E] 35 (0, 0))) (by kernel_rfl) ?_
           change wpAnyH _ _ _ _ _ _ _ _ (World.drew _)
           generalize q54.drew = z1 at *
           refine wpAnyH_take (i := 0) (v := .agg #[.int .u64 0, .slice none 0 0, .slice none 0 0]) rfl (by kernel_rfl) (by kernel_rfl) (by kernel_rfl) (fun _ _ _ h => h) (Or.inl ⟨by rfl, ?yL85x8⟩) RY ?rL85x8
           case yL85x8 =>
            intro w_ hS_
            go_simp
            try with_reducible rfl
           simp only [Act.put, List.getElem_toArray, List.getElem_cons_zero, List.setIfInBounds_toArray, List.set_cons_succ, List.set_cons_zero]
           refine wpAnyH_take (i := 1) (v := .agg #[.int .i64 0, .int .i64 at_, .int .i64 E]) rfl (by kernel_rfl) (by kernel_rfl) (by kernel_rfl) (fun _ _ _ h => h) (yieldsIf_load_mid (by rfl) 35 _ rfl gY 0 rfl [.int .i64 0, .int .i64 at_, .int .i64 E] _ (fun _ h => range_row ⟨_, h⟩) Tryz.underlying35 rfl infoFt) RY ?_
           simp only [Act.put, List.getElem_toArray, List.getElem_cons_succ, List.getElem_cons_zero, List.setIfInBounds_toArray, List.set_cons_succ, List.set_cons_zero]
           refine wpAnyH_one (k := 2) (fuel := 1) (by kernel_rfl) rfl (by kernel_rfl) (fun K_ hK_ => ?_)
           refine wp_store_row 78 _ _ rfl (w.heap.size) #[.int .u64 0, .slice none 0 0, .slice none 0 0] rfl rfl 78 _ R6 infoV rfl oneV ?_
           replace RY := (setRow_other z1 (w.heap.size) gY #[.int .u64 0, .slice none 0 0, .slice none 0 0] (by omega)).trans RY
           replace R7 := (setRow_other z1 (w.heap.size) (w.heap.size + 1) #[.int .u64 0, .slice none 0 0, .slice none 0 0] (by omega)).trans R7
           replace R6 := setRow_heap z1 (w.heap.size) _ (#[.int .u64 0, .slice none 0 0, .slice none 0 0]) _ _ R6
           replace hW := below_setRow hW (show w.heap.size ≤ w.heap.size by omega) #[.int .u64 0, .slice none 0 0, .slice none 0 0]
           refine hK_ _ _ RY ?_
           simp only [Act.put, List.getElem_toArray, List.getElem_cons_succ, List.getElem_cons_zero]
           clear hK_
           generalize z1.setRow (w.heap.size) #[.int .u64 0, .slice none 0 0, .slice none 0 0] = z2 at *
           refine wpAnyH_one (k := 3) (fuel := 0) (by kernel_rfl) rfl (by kernel_rfl) (fun K_ hK_ => ?_)
           refine wp_store_row 35 _ _ rfl (w.heap.size + 1) #[.int .i64 0, .int .i64 at_, .int .i64 E] rfl rfl 35 _ R7 infoFt rfl oneB ?_
           replace RY := (setRow_other z2 (w.heap.size + 1) gY #[.int .i64 0, .int .i64 at_, .int .i64 E] (by omega)).trans RY
           replace R6 := (setRow_other z2 (w.heap.size + 1) (w.heap.size) #[.int .i64 0, .int .i64 at_, .int .i64 E] (by omega)).trans R6
           replace R7 := setRow_heap z2 (w.heap.size + 1) _ (#[.int .i64 0, .int .i64 at_, .int .i64 E]) _ _ R7
           replace hW := below_setRow hW (show w.heap.size ≤ w.heap.size + 1 by omega) #[.int .i64 0, .int .i64 at_, .int .i64 E]
           refine hK_ _ _ RY ?_
           simp only [Act.put, List.getElem_toArray, List.getElem_cons_succ, List.getElem_cons_zero]
           clear hK_
           refine wpAnyH_done (by kernel_rfl) ?_ _
           go_wp2_with (fail)
           exact bodyPost_ret (v := .tuple #[.agg #[.int .u64 0, .slice none 0 0, .slice none 0 0], .agg #[.int .i64 0, .int .i64 at_, .int .i64 E]]) (results_cell_cell Tryz.results64 _ _ (w.heap.size) (w.heap.size + 1) _ _ _ _ _ _ _ _ rfl R6 Tryz.underlying78 rfl infoV rfl R7 Tryz.underlying35 rfl infoFt) rfl ⟨by unfold DcE; rw [hR.out, eR.out]; rfl, hW⟩
       ·rw [if_pos hty] at eR
        simp only at eR
        replace eR := hide eR
        have bt1 : (fty != wk) = true := by simpa using hty
        have bt2 : (fty == wk) = false := by simpa using hty
        have hbd : Below a1.heap.size a1 a1.drew := below_drN (Below.refl _ _) 1
        have sz_a3 := hby.size
        replace RVb := keep hbd RVb
        replace hOp := own_keep_row hOp hbd
        have HS' : (fun W : World => W.rangeAt b (off + k * 5) [.int .i64 no, .int .i64 kd, .int .u64 l, .int .u64 mo, .slice so sn sc] ∧ W.rangeAt fb (k * 4) [.int .i64 fno, .int .i64 fty, .int .u64 (fnum : Int), .slice fda fdl fdc]) _ := ⟨rangeS_keep2 HS.1 hbd (by omega), rangeS_keep2 HS.2 hbd (by omega)⟩
        replace HS := HS'
        clear HS'
        replace hby := Below.after hby hbd
        replace hbw := Nat.le_trans hbw hbd.size
        clear hbd
        refine wp_region_held (S := fun W : World => W.rangeAt b (off + k * 5) [.int .i64 no, .int .i64 kd, .int .u64 l, .int .u64 mo, .slice so sn sc] ∧ W.rangeAt fb (k * 4) [.int .i64 fno, .int .i64 fty, .int .u64 (fnum : Int), .slice fda fdl fdc]) (by kernel_rfl) ?_
        change wpAnyH _ _ _ _ _ _ _ _ (World.drew _)
        generalize a1.drew = a3 at *
        refine wpAnyH_take (i := 0) (v := ?vc108) rfl (by kernel_rfl) (by kernel_rfl) (by kernel_rfl) (fun _ _ _ h => h) (Or.inl ⟨by rfl, ?yc108⟩) HS ?rc108
        case yc108 =>
         intro w_ hS_
         go_simp
         try with_reducible rfl
        simp only [Act.put, List.getElem_toArray, List.getElem_cons_zero, List.setIfInBounds_toArray, List.set_cons_succ, List.set_cons_zero]
        refine wpAnyH_take (i := 1) (v := ?vc109) rfl (by kernel_rfl) (by kernel_rfl) (by kernel_rfl) (fun _ _ _ h => h) (Or.inl ⟨by rfl, ?yc109⟩) HS ?rc109
        case yc109 =>
         intro w_ hS_
         go_simp
         try with_reducible rfl
        simp only [Act.put, List.getElem_toArray, List.getElem_cons_succ, List.getElem_cons_zero, List.setIfInBounds_toArray, List.set_cons_succ, List.set_cons_zero]
        refine wpAnyH_take (i := 2) (v := ?vc110) rfl (by kernel_rfl) (by kernel_rfl) (by kernel_rfl) (fun _ _ _ h => h) (Or.inl ⟨by rfl, ?yc110⟩) HS ?rc110
        case yc110 =>
         intro w_ hS_
         go_simp
         try with_reducible rfl
        simp only [Act.put, List.getElem_toArray, List.getElem_cons_succ, List.getElem_cons_zero, List.setIfInBounds_toArray, List.set_cons_succ, List.set_cons_zero]
        refine wpAnyH_take (i := 3) (v := ?vc111) rfl (by kernel_rfl) (by kernel_rfl) (by kernel_rfl) (fun _ _ _ h => h) (Or.inl ⟨by rfl, ?yc111⟩) HS ?rc111
        case yc111 =>
         intro w_ hS_
         go_simp
         try with_reducible rfl
        simp only [Act.put, List.getElem_toArray, List.getElem_cons_succ, List.getElem_cons_zero, List.setIfInBounds_toArray, List.set_cons_succ, List.set_cons_zero]
        refine wpAnyH_take (i := 4) (v := .int .i64 fty) rfl (by kernel_rfl) (by kernel_rfl) (by kernel_rfl) (fun _ _ _ h => h) (Or.inl ⟨by rfl, ?yc112⟩) HS ?rc112
        case yc112 =>
         intro w_ hS_
         have c_ : w_.cell? ⟨fb, k * 4 + 1, none⟩ = some (.int .i64 fty) := hS_.2 1 _ rfl
         go_simp
         try with_reducible rfl
        simp only [Act.put, List.getElem_toArray, List.getElem_cons_succ, List.getElem_cons_zero, List.setIfInBounds_toArray, List.set_cons_succ, List.set_cons_zero]
        refine wpAnyH_take (i := 5) (v := ?vc113) rfl (by kernel_rfl) (by kernel_rfl) (by kernel_rfl) (fun _ _ _ h => h) (Or.inl ⟨by rfl, ?yc113⟩) HS ?rc113
        case yc113 =>
         intro w_ hS_
         go_simp
         try with_reducible rfl
        simp only [Act.put, List.getElem_toArray, List.getElem_cons_succ, List.getElem_cons_zero, List.setIfInBounds_toArray, List.set_cons_succ, List.set_cons_zero]
        refine wpAnyH_take (i := 6) (v := ?vc114) rfl (by kernel_rfl) (by kernel_rfl) (by kernel_rfl) (fun _ _ _ h => h) (Or.inl ⟨by rfl, ?yc114⟩) HS ?rc114
        case yc114 =>
         intro w_ hS_
         go_simp
         try with_reducible rfl
        simp only [Act.put, List.getElem_toArray, List.getElem_cons_succ, List.getElem_cons_zero, List.setIfInBounds_toArray, List.set_cons_succ, List.set_cons_zero]
        refine wpAnyH_take (i := 7) (v := ?vc115) rfl (by kernel_rfl) (by kernel_rfl) (by kernel_rfl) (fun _ _ _ h => h) (Or.inl ⟨by rfl, ?yc115⟩) HS ?rc115
        case yc115 =>
         intro w_ hS_
         go_simp
         try with_reducible rfl
        simp only [Act.put, List.getElem_toArray, List.getElem_cons_succ, List.getElem_cons_zero, List.setIfInBounds_toArray, List.set_cons_succ, List.set_cons_zero]
        refine wpAnyH_take (i := 8) (v := ?vc116) rfl (by kernel_rfl) (by kernel_rfl) (by kernel_rfl) (fun _ _ _ h => h) (Or.inl ⟨by rfl, ?yc116⟩) HS ?rc116
        case yc116 =>
         intro w_ hS_
         go_simp
         try with_reducible rfl
        simp only [Act.put, List.getElem_toArray, List.getElem_cons_succ, List.getElem_cons_zero, List.setIfInBounds_toArray, List.set_cons_succ, List.set_cons_zero]
        refine wpAnyH_take (i := 9) (v := .int .i64 kd) rfl (by kernel_rfl) (by kernel_rfl) (by kernel_rfl) (fun _ _ _ h => h) (Or.inl ⟨by rfl, ?yc117⟩) HS ?rc117
        case yc117 =>
         intro w_ hS_
         have c_ : w_.cell? ⟨b, off + k * 5 + 1, none⟩ = some (.int .i64 kd) := hS_.1 1 _ rfl
         go_simp
         try with_reducible rfl
        simp only [Act.put, List.getElem_toArray, List.getElem_cons_succ, List.getElem_cons_zero, List.setIfInBounds_toArray, List.set_cons_succ, List.set_cons_zero]
        refine wpAnyH_one (k := 10) (fuel := 1) (by kernel_rfl) rfl (by kernel_rfl) (fun K_ hK => ?_)
        refine wp_call_ex (f := 92) (R := fun u w' => u = .int .i64 wk ∧ Below a3.heap.size a3 w') (by kernel_rfl) ((cT.out a3).mono fun _ _ h => ⟨_, h.1, rfl, h.2⟩) (fun v_ a4 hX_ => ?_)
        obtain ⟨rfl, hb_⟩ := hX_
        have sz_a4 := hby.size
        replace RVb := keep hb_ RVb
        replace hOp := own_keep_row hOp hb_
        have HS' : (fun W : World => W.rangeAt b (off + k * 5) [.int .i64 no, .int .i64 kd, .int .u64 l, .int .u64 mo, .slice so sn sc] ∧ W.rangeAt fb (k * 4) [.int .i64 fno, .int .i64 fty, .int .u64 (fnum : Int), .slice fda fdl fdc]) _ := ⟨rangeS_keep2 HS.1 hb_ (by omega), rangeS_keep2 HS.2 hb_ (by omega)⟩
        replace HS := HS'
        clear HS'
        replace hby := Below.after hby hb_
        replace hbw := Nat.le_trans hbw hb_.size
        clear hb_
        refine hK _ _ HS ?_
        simp only [Act.put, List.getElem_toArray, List.getElem_cons_succ, List.getElem_cons_zero, List.setIfInBounds_toArray, List.set_cons_succ, List.set_cons_zero]
        clear hK
        refine wpAnyH_take (i := 11) (v := .bool true) rfl (by kernel_rfl) (by kernel_rfl) (by kernel_rfl) (fun _ _ _ h => h) (Or.inl ⟨by rfl, ?yc118⟩) HS ?rc118
        case yc118 =>
         intro w_ hS_
         go_simp
         try with_reducible rfl
        simp only [Act.put, List.getElem_toArray, List.getElem_cons_succ, List.getElem_cons_zero, List.setIfInBounds_toArray, List.set_cons_succ, List.set_cons_zero]
        refine wpAnyH_done (by kernel_rfl) ?_ _
        have R6 := (hby.block (w.heap.size) (by omega)).trans R6y.out
        have R7 := (hby.block (w.heap.size + 1) (by omega)).trans R7y.out
        have hW := hw0.out.trans (hby.mono (by omega))
        clear hOp RVb hby HS cPl hpl cW_ cT
        have oneF : (#[Value.int .i64 0, .int .i64 at_, .int .i64 82] : Array Value).all (·.oneCell') = true := by simp [Value.oneCell']
        have cA := hide (r_at (at_) 82 a4)
        replace hW := hide hW
        replace R6 := hide R6
        replace R7 := hide R7
        go_wp2_with (first | (refine wpList_build_want rfl 78 _ rfl [] rfl #[.int .u64 0, .slice none 0 0, .slice none 0 0] builtZvR ?_) | fail)
        refine cA.out.mono ?_
        rintro e_ x2 ⟨rfl, hb2⟩
        replace R6 := keep hb2 R6.out
        replace R7 := keep hb2 R7.out
        replace hW := Below.after hW.out hb2
        clear hb2 cA
        go_wp2_with (first | (refine wpList_store_row rfl 78 _ _ rfl (w.heap.size) #[.int .u64 0, .slice none 0 0, .slice none 0 0] rfl rfl 78 _ R6 infoV rfl oneV ?_) | (refine wpList_store_row rfl 35 _ _ rfl (w.heap.size + 1) #[.int .i64 0, .int .i64 at_, .int .i64 82] rfl rfl 35 _ ((setRow_other x2 (w.heap.size) (w.heap.size + 1) #[.int .u64 0, .slice none 0 0, .slice none 0 0] (by omega)).trans R7) infoFt rfl oneF ?_) | fail)
        replace R7 := (setRow_other x2 (w.heap.size) (w.heap.size + 1) #[.int .u64 0, .slice none 0 0, .slice none 0 0] (by omega)).trans R7
        replace R6 := setRow_heap x2 (w.heap.size) _ (#[.int .u64 0, .slice none 0 0, .slice none 0 0]) _ _ R6
        replace hW := below_setRow hW (show w.heap.size ≤ w.heap.size by omega) #[.int .u64 0, .slice none 0 0, .slice none 0 0]
        generalize x2.setRow (w.heap.size) #[.int .u64 0, .slice none 0 0, .slice none 0 0] = x3 at *
        replace R6 := (setRow_other x3 (w.heap.size + 1) (w.heap.size) #[.int .i64 0, .int .i64 at_, .int .i64 82] (by omega)).trans R6
        replace R7 := setRow_heap x3 (w.heap.size + 1) _ (#[.int .i64 0, .int .i64 at_, .int .i64 82]) _ _ R7
        replace hW := below_setRow hW (show w.heap.size ≤ w.heap.size + 1 by omega) #[.int .i64 0, .int .i64 at_, .int .i64 82]
        exact bodyPost_ret (v := .tuple #[.agg #[.int .u64 0, .slice none 0 0, .slice none 0 0], .agg #[.int .i64 0, .int .i64 at_, .int .i64 82]]) (results_cell_cell Tryz.results64 _ _ (w.heap.size) (w.heap.size + 1) _ _ _ _ _ _ _ _ rfl R6 Tryz.underlying78 rfl infoV rfl R7 Tryz.underlying35 rfl infoFt) rfl ⟨by unfold DcE; rw [hR.out, eR.out]; rfl, hW⟩
      ·rw [if_pos hno] at eR
       simp only at eR
       replace eR := hide eR
       have bn1 : (fno != no) = true := by simpa using hno
       have bn2 : (fno == no) = false := by simpa using hno
       have hbd : Below wr.heap.size wr wr.drew := below_drN (Below.refl _ _) 1
       have sz_a1 := hby.size
       replace RVb := keep hbd RVb
       replace hOp := own_keep_row hOp hbd
       have HS' : (fun W : World => W.rangeAt b (off + k * 5) [.int .i64 no, .int .i64 kd, .int .u64 l, .int .u64 mo, .slice so sn sc] ∧ W.rangeAt fb (k * 4) [.int .i64 fno, .int .i64 fty, .int .u64 (fnum : Int), .slice fda fdl fdc]) _ := ⟨rangeS_keep2 HS.1 hbd (by omega), rangeS_keep2 HS.2 hbd (by omega)⟩
       replace HS := HS'
       clear HS'
       replace hby := Below.after hby hbd
       replace hbw := Nat.le_trans hbw hbd.size
       clear hbd
       refine wp_region_held (S := fun W : World => W.rangeAt b (off + k * 5) [.int .i64 no, .int .i64 kd, .int .u64 l, .int .u64 mo, .slice so sn sc] ∧ W.rangeAt fb (k * 4) [.int .i64 fno, .int .i64 fty, .int .u64 (fnum : Int), .slice fda fdl fdc]) (by kernel_rfl) ?_
       change wpAnyH _ _ _ _ _ _ _ _ (World.drew _)
       generalize wr.drew = a1 at *
       refine wpAnyH_take (i := 0) (v := ?vd119) rfl (by kernel_rfl) (by kernel_rfl) (by kernel_rfl) (fun _ _ _ h => h) (Or.inl ⟨by rfl, ?yd119⟩) HS ?rd119
       case yd119 =>
        intro w_ hS_
        go_simp
        try with_reducible rfl
       simp only [Act.put, List.getElem_toArray, List.getElem_cons_zero, List.setIfInBounds_toArray, List.set_cons_succ, List.set_cons_zero]
       refine wpAnyH_take (i := 1) (v := ?vd120) rfl (by kernel_rfl) (by kernel_rfl) (by kernel_rfl) (fun _ _ _ h => h) (Or.inl ⟨by rfl, ?yd120⟩) HS ?rd120
       case yd120 =>
        intro w_ hS_
        go_simp
        try with_reducible rfl
       simp only [Act.put, List.getElem_toArray, List.getElem_cons_succ, List.getElem_cons_zero, List.setIfInBounds_toArray, List.set_cons_succ, List.set_cons_zero]
       refine wpAnyH_take (i := 2) (v := ?vd121) rfl (by kernel_rfl) (by kernel_rfl) (by kernel_rfl) (fun _ _ _ h => h) (Or.inl ⟨by rfl, ?yd121⟩) HS ?rd121
       case yd121 =>
        intro w_ hS_
        go_simp
        try with_reducible rfl
       simp only [Act.put, List.getElem_toArray, List.getElem_cons_succ, List.getElem_cons_zero, List.setIfInBounds_toArray, List.set_cons_succ, List.set_cons_zero]
       refine wpAnyH_take (i := 3) (v := ?vd122) rfl (by kernel_rfl) (by kernel_rfl) (by kernel_rfl) (fun _ _ _ h => h) (Or.inl ⟨by rfl, ?yd122⟩) HS ?rd122
       case yd122 =>
        intro w_ hS_
        go_simp
        try with_reducible rfl
       simp only [Act.put, List.getElem_toArray, List.getElem_cons_succ, List.getElem_cons_zero, List.setIfInBounds_toArray, List.set_cons_succ, List.set_cons_zero]
       refine wpAnyH_take (i := 4) (v := .int .i64 fno) rfl (by kernel_rfl) (by kernel_rfl) (by kernel_rfl) (fun _ _ _ h => h) (Or.inl ⟨by rfl, ?yd123⟩) HS ?rd123
       case yd123 =>
        intro w_ hS_
        have c_ : w_.cell? ⟨fb, k * 4, none⟩ = some (.int .i64 fno) := hS_.2 0 _ rfl
        go_simp
        try with_reducible rfl
       simp only [Act.put, List.getElem_toArray, List.getElem_cons_succ, List.getElem_cons_zero, List.setIfInBounds_toArray, List.set_cons_succ, List.set_cons_zero]
       refine wpAnyH_take (i := 5) (v := ?vd124) rfl (by kernel_rfl) (by kernel_rfl) (by kernel_rfl) (fun _ _ _ h => h) (Or.inl ⟨by rfl, ?yd124⟩) HS ?rd124
       case yd124 =>
        intro w_ hS_
        go_simp
        try with_reducible rfl
       simp only [Act.put, List.getElem_toArray, List.getElem_cons_succ, List.getElem_cons_zero, List.setIfInBounds_toArray, List.set_cons_succ, List.set_cons_zero]
       refine wpAnyH_take (i := 6) (v := ?vd125) rfl (by kernel_rfl) (by kernel_rfl) (by kernel_rfl) (fun _ _ _ h => h) (Or.inl ⟨by rfl, ?yd125⟩) HS ?rd125
       case yd125 =>
        intro w_ hS_
        go_simp
        try with_reducible rfl
       simp only [Act.put, List.getElem_toArray, List.getElem_cons_succ, List.getElem_cons_zero, List.setIfInBounds_toArray, List.set_cons_succ, List.set_cons_zero]
       refine wpAnyH_take (i := 7) (v := ?vd126) rfl (by kernel_rfl) (by kernel_rfl) (by kernel_rfl) (fun _ _ _ h => h) (Or.inl ⟨by rfl, ?yd126⟩) HS ?rd126
       case yd126 =>
        intro w_ hS_
        go_simp
        try with_reducible rfl
       simp only [Act.put, List.getElem_toArray, List.getElem_cons_succ, List.getElem_cons_zero, List.setIfInBounds_toArray, List.set_cons_succ, List.set_cons_zero]
       refine wpAnyH_take (i := 8) (v := ?vd127) rfl (by kernel_rfl) (by kernel_rfl) (by kernel_rfl) (fun _ _ _ h => h) (Or.inl ⟨by rfl, ?yd127⟩) HS ?rd127
       case yd127 =>
        intro w_ hS_
        go_simp
        try with_reducible rfl
       simp only [Act.put, List.getElem_toArray, List.getElem_cons_succ, List.getElem_cons_zero, List.setIfInBounds_toArray, List.set_cons_succ, List.set_cons_zero]
       refine wpAnyH_take (i := 9) (v := .int .i64 no) rfl (by kernel_rfl) (by kernel_rfl) (by kernel_rfl) (fun _ _ _ h => h) (Or.inl ⟨by rfl, ?yd128⟩) HS ?rd128
       case yd128 =>
        intro w_ hS_
        have c_ : w_.cell? ⟨b, off + k * 5, none⟩ = some (.int .i64 no) := hS_.1 0 _ rfl
        go_simp
        try with_reducible rfl
       simp only [Act.put, List.getElem_toArray, List.getElem_cons_succ, List.getElem_cons_zero, List.setIfInBounds_toArray, List.set_cons_succ, List.set_cons_zero]
       refine wpAnyH_take (i := 10) (v := .bool true) rfl (by kernel_rfl) (by kernel_rfl) (by kernel_rfl) (fun _ _ _ h => h) (Or.inl ⟨by rfl, ?yd129⟩) HS ?rd129
       case yd129 =>
        intro w_ hS_
        go_simp
        try with_reducible rfl
       simp only [Act.put, List.getElem_toArray, List.getElem_cons_succ, List.getElem_cons_zero, List.setIfInBounds_toArray, List.set_cons_succ, List.set_cons_zero]
       refine wpAnyH_done (by kernel_rfl) ?_ _
       have R6 := (hby.block (w.heap.size) (by omega)).trans R6y.out
       have R7 := (hby.block (w.heap.size + 1) (by omega)).trans R7y.out
       have hW := hw0.out.trans (hby.mono (by omega))
       clear hOp RVb hby HS cPl hpl cW_ cT
       have oneF : (#[Value.int .i64 0, .int .i64 at_, .int .i64 81] : Array Value).all (·.oneCell') = true := by simp [Value.oneCell']
       have cA := hide (r_at (at_) 81 a1)
       replace hW := hide hW
       replace R6 := hide R6
       replace R7 := hide R7
       go_wp2_with (first | (refine wpList_build_want rfl 78 _ rfl [] rfl #[.int .u64 0, .slice none 0 0, .slice none 0 0] builtZvR ?_) | fail)
       refine cA.out.mono ?_
       rintro e_ x2 ⟨rfl, hb2⟩
       replace R6 := keep hb2 R6.out
       replace R7 := keep hb2 R7.out
       replace hW := Below.after hW.out hb2
       clear hb2 cA
       go_wp2_with (first | (refine wpList_store_row rfl 78 _ _ rfl (w.heap.size) #[.int .u64 0, .slice none 0 0, .slice none 0 0] rfl rfl 78 _ R6 infoV rfl oneV ?_) | (refine wpList_store_row rfl 35 _ _ rfl (w.heap.size + 1) #[.int .i64 0, .int .i64 at_, .int .i64 81] rfl rfl 35 _ ((setRow_other x2 (w.heap.size) (w.heap.size + 1) #[.int .u64 0, .slice none 0 0, .slice none 0 0] (by omega)).trans R7) infoFt rfl oneF ?_) | fail)
       replace R7 := (setRow_other x2 (w.heap.size) (w.heap.size + 1) #[.int .u64 0, .slice none 0 0, .slice none 0 0] (by omega)).trans R7
       replace R6 := setRow_heap x2 (w.heap.size) _ (#[.int .u64 0, .slice none 0 0, .slice none 0 0]) _ _ R6
       replace hW := below_setRow hW (show w.heap.size ≤ w.heap.size by omega) #[.int .u64 0, .slice none 0 0, .slice none 0 0]
       generalize x2.setRow (w.heap.size) #[.int .u64 0, .slice none 0 0, .slice none 0 0] = x3 at *
       replace R6 := (setRow_other x3 (w.heap.size + 1) (w.heap.size) #[.int .i64 0, .int .i64 at_, .int .i64 81] (by omega)).trans R6
       replace R7 := setRow_heap x3 (w.heap.size + 1) _ (#[.int .i64 0, .int .i64 at_, .int .i64 81]) _ _ R7
       replace hW := below_setRow hW (show w.heap.size ≤ w.heap.size + 1 by omega) #[.int .i64 0, .int .i64 at_, .int .i64 81]
       exact bodyPost_ret (v := .tuple #[.agg #[.int .u64 0, .slice none 0 0, .slice none 0 0], .agg #[.int .i64 0, .int .i64 at_, .int .i64 81]]) (results_cell_cell Tryz.results64 _ _ (w.heap.size) (w.heap.size + 1) _ _ _ _ _ _ _ _ rfl R6 Tryz.underlying78 rfl infoV rfl R7 Tryz.underlying35 rfl infoFt) rfl ⟨by unfold DcE; rw [hR.out, eR.out]; rfl, hW⟩
    ·obtain rfl : k = ts.length := by omega
     have hdk : decide ((ts.length : Int) < (ts.length : Int)) = false := by simp
     have szy := hby.size
     clear h hfl hkn hfok hnn
     by_cases hlf : ts.length < fs.length
     ·rw [dcF_long rfl hlf] at eR
      have hdl : decide ((fs.length : Int) > (ts.length : Int)) = true := by simp; omega
      replace eR := hide eR
      generalize from_ + ((ebs (fs.take ts.length)).length : Int) = at_ at *
      have R6 := (hby.block (w.heap.size) (by omega)).trans R6y.out
      have R7 := (hby.block (w.heap.size + 1) (by omega)).trans R7y.out
      have hW := hw0.out.trans (hby.mono (by omega))
      clear hOp RVb hby
      have oneF : (#[Value.int .i64 0, .int .i64 at_, .int .i64 81] : Array Value).all (·.oneCell') = true := by simp [Value.oneCell']
      have cA := hide (r_at (at_) 81 wr)
      replace hW := hide hW
      replace R6 := hide R6
      replace R7 := hide R7
      go_wp2_with (first | (refine wpList_build_want rfl 78 _ rfl [] rfl #[.int .u64 0, .slice none 0 0, .slice none 0 0] builtZvR ?_) | fail)
      refine cA.out.mono ?_
      rintro e_ x2 ⟨rfl, hb2⟩
      replace R6 := keep hb2 R6.out
      replace R7 := keep hb2 R7.out
      replace hW := Below.after hW.out hb2
      clear hb2 cA
      go_wp2_with (first | (refine wpList_store_row rfl 78 _ _ rfl (w.heap.size) #[.int .u64 0, .slice none 0 0, .slice none 0 0] rfl rfl 78 _ R6 infoV rfl oneV ?_) | (refine wpList_store_row rfl 35 _ _ rfl (w.heap.size + 1) #[.int .i64 0, .int .i64 at_, .int .i64 81] rfl rfl 35 _ ((setRow_other x2 (w.heap.size) (w.heap.size + 1) #[.int .u64 0, .slice none 0 0, .slice none 0 0] (by omega)).trans R7) infoFt rfl oneF ?_) | fail)
      replace R7 := (setRow_other x2 (w.heap.size) (w.heap.size + 1) #[.int .u64 0, .slice none 0 0, .slice none 0 0] (by omega)).trans R7
      replace R6 := setRow_heap x2 (w.heap.size) _ (#[.int .u64 0, .slice none 0 0, .slice none 0 0]) _ _ R6
      replace hW := below_setRow hW (show w.heap.size ≤ w.heap.size by omega) #[.int .u64 0, .slice none 0 0, .slice none 0 0]
      generalize x2.setRow (w.heap.size) #[.int .u64 0, .slice none 0 0, .slice none 0 0] = x3 at *
      replace R6 := (setRow_other x3 (w.heap.size + 1) (w.heap.size) #[.int .i64 0, .int .i64 at_, .int .i64 81] (by omega)).trans R6
      replace R7 := setRow_heap x3 (w.heap.size + 1) _ (#[.int .i64 0, .int .i64 at_, .int .i64 81]) _ _ R7
      replace hW := below_setRow hW (show w.heap.size ≤ w.heap.size + 1 by omega) #[.int .i64 0, .int .i64 at_, .int .i64 81]
      exact bodyPost_ret (v := .tuple #[.agg #[.int .u64 0, .slice none 0 0, .slice none 0 0], .agg #[.int .i64 0, .int .i64 at_, .int .i64 81]]) (results_cell_cell Tryz.results64 _ _ (w.heap.size) (w.heap.size + 1) _ _ _ _ _ _ _ _ rfl R6 Tryz.underlying78 rfl infoV rfl R7 Tryz.underlying35 rfl infoFt) rfl ⟨by unfold DcE; rw [hR.out, eR.out]; rfl, hW⟩
     ·have hle : fs.length = ts.length := by omega
      rw [dcF_end rfl hle] at eR
      have hdl : decide ((fs.length : Int) > (ts.length : Int)) = false := by simp; omega
      rw [← hle] at hOp
      obtain ⟨po, pc, rfl⟩ := own_slice hOp
      have oneP : (#[Value.int .u64 0, .slice none 0 0, .slice po fs.length pc] : Array Value).all (·.oneCell') = true := by simp [Value.oneCell']
      have oneZ : (#[Value.int .i64 0, .int .i64 0, .int .i64 0] : Array Value).all (·.oneCell') = true := by simp [Value.oneCell']
      have R6 := (hby.block (w.heap.size) (by omega)).trans R6y.out
      have R7 := (hby.block (w.heap.size + 1) (by omega)).trans R7y.out
      have hW := hw0.out.trans (hby.mono (by omega))
      have hmv : ∀ g o, w.heap.size + 1 < g → wr.heap[g]? = some o → ((wr.setRow (w.heap.size) #[.int .u64 0, .slice none 0 0, .slice po fs.length pc]).setRow (w.heap.size + 1) #[.int .i64 0, .int .i64 0, .int .i64 0]).heap[g]? = some o := fun g o hg ho => (setRow_other _ (w.heap.size + 1) g #[.int .i64 0, .int .i64 0, .int .i64 0] (by omega)).trans ((setRow_other wr (w.heap.size) g #[.int .u64 0, .slice none 0 0, .slice po fs.length pc] (by omega)).trans ho)
      have hOF := hide (own_down_row (own_move_row hOp (fun g o hg ho => hmv g o (by omega) ho)) (show w.heap.size ≤ y.heap.size + 1 by omega))
      have hFF := hide (Fts.down (Fts.move (hFt.out.keep hby) (fun g o hg ho => hmv g o (by omega) ho)) (show w.heap.size ≤ w0.heap.size by omega))
      have R7b := (setRow_other wr (w.heap.size) (w.heap.size + 1) #[.int .u64 0, .slice none 0 0, .slice po fs.length pc] (by omega)).trans R7
      replace eR := hide eR
      replace hle := hide hle
      clear hOp hby hmv hFt hw0
      go_wp2_with (first | (refine wpList_load_want rfl 78 _ rfl y.heap.size rfl 78 #[.int .u64 0, .slice none 0 0, .slice po fs.length pc] (0, 0) _ RVb Tryz.underlying78 rfl infoV ?_) | (refine wpList_build_want rfl 35 _ rfl [] rfl #[.int .i64 0, .int .i64 0, .int .i64 0] builtZeR ?_) | (refine wpList_store_row rfl 78 _ _ rfl (w.heap.size) #[.int .u64 0, .slice none 0 0, .slice po fs.length pc] rfl rfl 78 _ R6 infoV rfl oneP ?_) | (refine wpList_store_row rfl 35 _ _ rfl (w.heap.size + 1) #[.int .i64 0, .int .i64 0, .int .i64 0] rfl rfl 35 _ R7b infoFt rfl oneZ ?_) | fail)
      clear R7b
      replace R7 := (setRow_other wr (w.heap.size) (w.heap.size + 1) #[.int .u64 0, .slice none 0 0, .slice po fs.length pc] (by omega)).trans R7
      replace R6 := setRow_heap wr (w.heap.size) _ (#[.int .u64 0, .slice none 0 0, .slice po fs.length pc]) _ _ R6
      replace hW := below_setRow hW (show w.heap.size ≤ w.heap.size by omega) #[.int .u64 0, .slice none 0 0, .slice po fs.length pc]
      generalize wr.setRow (w.heap.size) #[.int .u64 0, .slice none 0 0, .slice po fs.length pc] = x3 at *
      replace R6 := (setRow_other x3 (w.heap.size + 1) (w.heap.size) #[.int .i64 0, .int .i64 0, .int .i64 0] (by omega)).trans R6
      replace R7 := setRow_heap x3 (w.heap.size + 1) _ (#[.int .i64 0, .int .i64 0, .int .i64 0]) _ _ R7
      replace hW := below_setRow hW (show w.heap.size ≤ w.heap.size + 1 by omega) #[.int .i64 0, .int .i64 0, .int .i64 0]
      exact bodyPost_ret (v := .tuple #[.agg #[.int .u64 0, .slice none 0 0, .slice po fs.length pc], .agg #[.int .i64 0, .int .i64 0, .int .i64 0]]) (results_cell_cell Tryz.results64 _ _ (w.heap.size) (w.heap.size + 1) _ _ _ _ _ _ _ _ rfl R6 Tryz.underlying78 rfl infoV rfl R7 Tryz.underlying35 rfl infoFt) rfl ⟨by unfold DcE; rw [hR.out, eR.out]; exact ⟨_, _, us, rfl, by rw [hfs.out]; exact hOF.out, by rw [hfs.out]; exact hFF.out⟩, hW⟩
  ·have eR : R = some ⟨0, from_ + dpl (dwh d), der (dwh d)⟩ := by rw [← hR0, dec8, if_pos hde]
   have hd1 : (der (dwh d) == 0) = false := by simpa using hde
   have hd2 : (der (dwh d) != 0) = true := by simpa using hde
   have hdp := dpl_bd d
   have hby := Below.refl y.heap.size y
   replace eR := hide eR
   replace hde := hide hde
   clear hR0
   generalize der (dwh d) = E at *
   generalize dpl (dwh d) = pl at *
   have R6 := (hby.block (w.heap.size) (by omega)).trans R6y.out
   have R7 := (hby.block (w.heap.size + 1) (by omega)).trans R7y.out
   have hW := hw0.out.trans (hby.mono (by omega))
   clear hby h hsf hfl hnn hFt
   have oneF : (#[Value.int .i64 0, .int .i64 (from_ + pl), .int .i64 E] : Array Value).all (·.oneCell') = true := by simp [Value.oneCell']
   have cA := hide (r_at ((from_ + pl)) E y)
   replace hW := hide hW
   replace R6 := hide R6
   replace R7 := hide R7
   go_wp2_with (first | (refine wpList_build_want rfl 78 _ rfl [] rfl #[.int .u64 0, .slice none 0 0, .slice none 0 0] builtZvR ?_) | fail)
   refine cA.out.mono ?_
   rintro e_ x2 ⟨rfl, hb2⟩
   replace R6 := keep hb2 R6.out
   replace R7 := keep hb2 R7.out
   replace hW := Below.after hW.out hb2
   clear hb2 cA
   go_wp2_with (first | (refine wpList_store_row rfl 78 _ _ rfl (w.heap.size) #[.int .u64 0, .slice none 0 0, .slice none 0 0] rfl rfl 78 _ R6 infoV rfl oneV ?_) | (refine wpList_store_row rfl 35 _ _ rfl (w.heap.size + 1) #[.int .i64 0, .int .i64 (from_ + pl), .int .i64 E] rfl rfl 35 _ ((setRow_other x2 (w.heap.size) (w.heap.size + 1) #[.int .u64 0, .slice none 0 0, .slice none 0 0] (by omega)).trans R7) infoFt rfl oneF ?_) | fail)
   replace R7 := (setRow_other x2 (w.heap.size) (w.heap.size + 1) #[.int .u64 0, .slice none 0 0, .slice none 0 0] (by omega)).trans R7
   replace R6 := setRow_heap x2 (w.heap.size) _ (#[.int .u64 0, .slice none 0 0, .slice none 0 0]) _ _ R6
   replace hW := below_setRow hW (show w.heap.size ≤ w.heap.size by omega) #[.int .u64 0, .slice none 0 0, .slice none 0 0]
   generalize x2.setRow (w.heap.size) #[.int .u64 0, .slice none 0 0, .slice none 0 0] = x3 at *
   replace R6 := (setRow_other x3 (w.heap.size + 1) (w.heap.size) #[.int .i64 0, .int .i64 (from_ + pl), .int .i64 E] (by omega)).trans R6
   replace R7 := setRow_heap x3 (w.heap.size + 1) _ (#[.int .i64 0, .int .i64 (from_ + pl), .int .i64 E]) _ _ R7
   replace hW := below_setRow hW (show w.heap.size ≤ w.heap.size + 1 by omega) #[.int .i64 0, .int .i64 (from_ + pl), .int .i64 E]
   exact bodyPost_ret (v := .tuple #[.agg #[.int .u64 0, .slice none 0 0, .slice none 0 0], .agg #[.int .i64 0, .int .i64 (from_ + pl), .int .i64 E]]) (results_cell_cell Tryz.results64 _ _ (w.heap.size) (w.heap.size + 1) _ _ _ _ _ _ _ _ rfl R6 Tryz.underlying78 rfl infoV rfl R7 Tryz.underlying35 rfl infoFt) rfl ⟨by unfold DcE; rw [hR.out, eR.out]; rfl, hW⟩
end Go.Proofs.YtjoohgkgkabbpaaGreatDoor

