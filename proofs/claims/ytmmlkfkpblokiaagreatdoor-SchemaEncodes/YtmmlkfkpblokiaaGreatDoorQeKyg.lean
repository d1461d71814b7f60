import Derived.Test.YtmmlkfkpblokiaaGreatDoorQeKye
import Derived.Test.YtmmlkfkpblokiaaGreatDoorProg
import Derived.WalkKit
import Derived.WalkSpells
import Derived.WalkLawsBesides
import Derived.Lib.QuietBelow
import Derived.Laws.BitsAllLaws
import Derived.BigQuiet
import Derived.WalkMore
import Derived.Test.YtmmlkfkpblokiaaGreatDoorQeOpen
import Derived.Test.YtmmlkfkpblokiaaGreatDoorQeWr
namespace Go.Proofs.YtmmlkfkpblokiaaGreatDoor
set_option maxRecDepth 100000
open Go Go.RowKit Go.Sort
attribute [local go_sem] setCell_drewN alloc_drewN
theorem gd_subs {t : Slt} (hf : sfit t = true) (h : nst t → gd t.sub) : gd t.sub := by
 by_cases hk : nst t
 ·exact h hk
 ·have : t.sub = [] := by
   refine List.eq_nil_of_length_eq_zero ?_
   have h8 : ¬ t.kind = 8 := fun e => hk (.inl e)
   have h9 : ¬ t.kind = 9 := fun e => hk (.inr e)
   unfold sfit fitN fitB at hf
   by_cases q : (((t.sub.length : Nat) : Int) == 0) = true
   ·have := eq_of_beq q
    omega
   ·rw [Bool.not_eq_true] at q
    rw [q] at hf
    exfalso
    revert hf
    split <;> simp_all
  rw [this]
  rw [gd]
  trivial
set_option maxRecDepth 100000 in
set_option maxHeartbeats 8000000 in
theorem r_partN {t : Slt} {so : Option Addr} {sn sc : Nat} (hf : sfit t = true) (S : Nat → Prop) (x : VR) (X : VT) (deep : Int) (hd0 : 0 ≤ deep) (hd1 : deep + 1 ≤ 9223372036854775807) (w : World) (hX : VtM w S x X)
 (hck : ∀ (y : VR) (Y : VT) (V : World), Below w.heap.size w V → VtM w S y Y → Calls Tryz.prog 34 #[.slice so sn sc, .agg (vrv y), .int .i64 (deep + 1)] V fun e w' => e = .returned (.agg (flr (ckT utD flD t.sub Y (deep + 1)))) ∧ Below V.heap.size V w') :
 Calls Tryz.prog 52 #[.agg (slr t (.slice so sn sc)), .agg (vrv x), .int .i64 deep] w fun e w' => e = .returned (.agg (flr (slT utD flD t X deep))) ∧ Below w.heap.size w w' := by
 obtain ⟨FO, hF⟩ : ∃ FO, slT utD flD t X deep = FO := ⟨_, rfl⟩
 rw [hF]
 have cP := hide (fun h8 V hV => r_plainT (t := t) h8 hf so sn sc hX V hV)
 have cM := hide (fun V hV => hck x X V hV hX)
 obtain ⟨e1, e2, e3, e4, e5⟩ := hX.num_eq
 obtain ⟨xs, hP⟩ := hX.split
 have hpl : x.pl = X.parts.length := e5
 clear e1 e2 e3 e4 e5
 obtain ⟨n, da, dl, dc, pa, pl, pc⟩ := x
 replace hpl : Hid (pl = X.parts.length) := hide hpl
 replace hP : PtM w S (.slice pa pl pc) xs X.parts := hP
 unfold slr vrv vrw at *
 have hs8 : t.kind = 8 → slT utD flD t X deep = ckT utD flD t.sub X (deep + 1) := fun h => slT_msg utD flD h X deep
 have hs9 := fun h => slT_pl9 (t := t) h X deep
 rw [hF] at hs8 hs9
 clear hF
 generalize hno : t.no = no at *
 generalize hkd : t.kind = kd at *
 generalize (t.least : Int) = l at *
 generalize (t.most : Int) = mo at *
 have hb : Below w.heap.size w (((w.alloc (.cells #[.int .i64 no, .int .i64 kd, .int .u64 l, .int .u64 mo, .slice so sn sc] 88)).alloc (.cells #[.int .u64 (n : Int), .slice da dl dc, .slice pa pl pc] 27)).alloc (.cells #[.int .i64 0, .int .i64 0, .int .i64 0] 41)) := xb3 w _ _ _
 have r0 := xp3_0 w (.cells #[.int .i64 no, .int .i64 kd, .int .u64 l, .int .u64 mo, .slice so sn sc] 88) (.cells #[.int .u64 (n : Int), .slice da dl dc, .slice pa pl pc] 27) (.cells #[.int .i64 0, .int .i64 0, .int .i64 0] 41)
 have r1 := xp3_1 w (.cells #[.int .i64 no, .int .i64 kd, .int .u64 l, .int .u64 mo, .slice so sn sc] 88) (.cells #[.int .u64 (n : Int), .slice da dl dc, .slice pa pl pc] 27) (.cells #[.int .i64 0, .int .i64 0, .int .i64 0] 41)
 have r2 := xp3_2 w (.cells #[.int .i64 no, .int .i64 kd, .int .u64 l, .int .u64 mo, .slice so sn sc] 88) (.cells #[.int .u64 (n : Int), .slice da dl dc, .slice pa pl pc] 27) (.cells #[.int .i64 0, .int .i64 0, .int .i64 0] 41)
 have hwr : IntKind.i64.wrap (deep + 1) = deep + 1 := by rw [IntKind.wrap_i64]; omega
 by_cases h8 : kd = 8
 ·have hF := hide (hs8 h8)
  subst h8
  clear hs8 hs9 cP
  obtain ⟨G, hG⟩ : ∃ G, ckT utD flD t.sub X (deep + 1) = G := ⟨_, rfl⟩
  have cG := cM.out
  rw [hG] at cG hF
  replace cG := hide cG
  clear cM hck hP hG
  go_enter Tryz.func52, Tryz.ntmps52
  go_wp2_with (first | (refine wpList_load_want rfl 27 _ rfl (w.heap.size + 1) rfl 27 _ (0, 0) _ r1 Tryz.underlying27 rfl infoV ?_) | fail)
  refine (cG.out _ hb).mono ?_
  rintro e_ w1 ⟨rfl, hb1⟩
  clear cG
  replace r2 := keep hb1 r2
  replace hb1 := Below.after hb hb1
  have hsz := lt_of_row r2
  clear hb r0 r1
  cases G with
  | none =>
   have hone : (#[Value.int .i64 0, .int .i64 0, .int .i64 0] : Array Value).all (·.oneCell') = true := by simp [Value.oneCell']
   have r3 := setRow_heap w1 (w.heap.size + 1 + 1) _ #[.int .i64 0, .int .i64 0, .int .i64 0] _ _ r2
   have hb3 := below_setRow (g := w.heap.size + 1 + 1) hb1 (by omega) #[.int .i64 0, .int .i64 0, .int .i64 0]
   have A1 := hide r3
   have A2 := hide hb3
   clear r3 hb3
   go_wp2_with (first | (refine wpList_store_row rfl 41 _ _ rfl (w.heap.size + 1 + 1) #[.int .i64 0, .int .i64 0, .int .i64 0] rfl rfl 41 _ r2 infoFt rfl hone ?_) | fail)
   exact bodyPost_ret (v := .agg #[.int .i64 0, .int .i64 0, .int .i64 0]) (results_cell_row Tryz.results52 _ _ (w.heap.size + 1 + 1) _ _ _ _ rfl A1.out Tryz.underlying41 rfl infoFt) rfl ⟨by rw [hF.out]; rfl, A2.out⟩
  | some f =>
   have hone : (#[Value.int .i64 f.line, .int .i64 f.at_, .int .i64 f.why] : Array Value).all (·.oneCell') = true := by simp [Value.oneCell']
   have r3 := setRow_heap w1 (w.heap.size + 1 + 1) _ #[.int .i64 f.line, .int .i64 f.at_, .int .i64 f.why] _ _ r2
   have hb3 := below_setRow (g := w.heap.size + 1 + 1) hb1 (by omega) #[.int .i64 f.line, .int .i64 f.at_, .int .i64 f.why]
   have A1 := hide r3
   have A2 := hide hb3
   clear r3 hb3
   go_wp2_with (first | (refine wpList_store_row rfl 41 _ _ rfl (w.heap.size + 1 + 1) #[.int .i64 f.line, .int .i64 f.at_, .int .i64 f.why] rfl rfl 41 _ r2 infoFt rfl hone ?_) | fail)
   exact bodyPost_ret (v := .agg #[.int .i64 f.line, .int .i64 f.at_, .int .i64 f.why]) (results_cell_row Tryz.results52 _ _ (w.heap.size + 1 + 1) _ _ _ _ rfl A1.out Tryz.underlying41 rfl infoFt) rfl ⟨by rw [hF.out]; rfl, A2.out⟩
 replace hs9 := hs9 h8
 have b8 : (kd == 8) = false := by simpa using h8
 have cE := cP.out h8
 clear cP cM hs8
 generalize plT t X = E at *
 replace hs9 := hide hs9
 replace cE := hide cE
 go_enter Tryz.func52, Tryz.ntmps52
 go_wp2_with (first | (refine wpList_load_want rfl 88 _ rfl w.heap.size rfl 88 _ (0, 0) _ r0 Tryz.underlying88 rfl infoSlt ?_) | (refine wpList_load_want rfl 27 _ rfl (w.heap.size + 1) rfl 27 _ (0, 0) _ r1 Tryz.underlying27 rfl infoV ?_) | fail)
 refine (cE.out _ hb).mono ?_
 rintro e_ w1 ⟨rfl, hb1⟩
 clear cE
 replace r0 := keep hb1 r0
 replace r1 := keep hb1 r1
 replace r2 := keep hb1 r2
 replace hb1 := Below.after hb hb1
 have hsz := lt_of_row r2
 have c0 : w1.cell? ⟨w.heap.size, 0, none⟩ = some (.int .i64 no) := by rw [cell_of_row _ _ _ _ _ _ r0]; rfl
 have c1 : w1.cell? ⟨w.heap.size, 1, none⟩ = some (.int .i64 kd) := by rw [cell_of_row _ _ _ _ _ _ r0]; rfl
 clear hb
 rcases hE : (E == 0)
 ·have hE2 : ¬ E = 0 := by simpa using hE
  have hF := hide (show FO = some ⟨deep, no, E⟩ by rw [hs9.out, if_pos hE2])
  clear hck hP hs9
  have hone : (#[Value.int .i64 deep, .int .i64 no, .int .i64 E] : Array Value).all (·.oneCell') = true := by simp [Value.oneCell']
  have r3 := setRow_heap w1 (w.heap.size + 1 + 1) _ #[.int .i64 deep, .int .i64 no, .int .i64 E] _ _ r2
  have hb3 := below_setRow (g := w.heap.size + 1 + 1) hb1 (by omega) #[.int .i64 deep, .int .i64 no, .int .i64 E]
  have A1 := hide r3
  have A2 := hide hb3
  clear r3 hb3
  go_wp2_with (first | (refine wpList_store_row rfl 41 _ _ rfl (w.heap.size + 1 + 1) #[.int .i64 deep, .int .i64 no, .int .i64 E] rfl rfl 41 _ r2 infoFt rfl hone ?_) | fail)
  exact bodyPost_ret (v := .agg #[.int .i64 deep, .int .i64 no, .int .i64 E]) (results_cell_row Tryz.results52 _ _ (w.heap.size + 1 + 1) _ _ _ _ rfl A1.out Tryz.underlying41 rfl infoFt) rfl ⟨by rw [hF.out]; rfl, A2.out⟩
 obtain rfl : E = 0 := by simpa using hE
 by_cases h9 : kd = 9
 rotate_left
 ·have hF := hide (show FO = none by rw [hs9.out, if_neg (by decide), if_neg h9])
  have b9 : (kd == 9) = false := by simpa using h9
  clear hck hP hs9 hE
  have hone : (#[Value.int .i64 0, .int .i64 0, .int .i64 0] : Array Value).all (·.oneCell') = true := by simp [Value.oneCell']
  have r3 := setRow_heap w1 (w.heap.size + 1 + 1) _ #[.int .i64 0, .int .i64 0, .int .i64 0] _ _ r2
  have hb3 := below_setRow (g := w.heap.size + 1 + 1) hb1 (by omega) #[.int .i64 0, .int .i64 0, .int .i64 0]
  have A1 := hide r3
  have A2 := hide hb3
  clear r3 hb3
  go_wp2_with (first | (refine wpList_store_row rfl 41 _ _ rfl (w.heap.size + 1 + 1) #[.int .i64 0, .int .i64 0, .int .i64 0] rfl rfl 41 _ r2 infoFt rfl hone ?_) | fail)
  exact bodyPost_ret (v := .agg #[.int .i64 0, .int .i64 0, .int .i64 0]) (results_cell_row Tryz.results52 _ _ (w.heap.size + 1 + 1) _ _ _ _ rfl A1.out Tryz.underlying41 rfl infoFt) rfl ⟨by rw [hF.out]; rfl, A2.out⟩
 have hF := hide (show FO = frsT (fun p => ckT utD flD t.sub p (deep + 1)) (X.parts.drop 0) by rw [hs9.out, if_neg (by decide), if_pos h9]; rfl)
 clear hs9 hE
 obtain ⟨pa_, pc_, ep, hxl, hpc, hpm, hpr, hVs⟩ := hP
 injection ep with ep1 ep2 ep3
 subst ep1 ep3
 clear ep2
 generalize X.parts = ps at *
 subst h9
 go_wp2_with (fail)
 go_loopw [8, 9] (fun i _ wr => ∃ k : Nat, k ≤ ps.length ∧ i = .int .i64 k ∧ FO = frsT (fun p => ckT utD flD t.sub p (deep + 1)) (ps.drop k) ∧ Below w.heap.size w wr ∧ Bx wr w.heap.size #[.int .i64 no, .int .i64 9, .int .u64 l, .int .u64 mo, .slice so sn sc] ∧ Bx wr (w.heap.size + 1) #[.int .u64 (n : Int), .slice da dl dc, .slice pa pl pc] ∧ wr.heap[w.heap.size + 1 + 1]? = some (.cells #[.int .i64 0, .int .i64 0, .int .i64 0] 41 (0, 0))) (fun i _ _ => ps.length - (intOf i).toNat)
 case atStart => exact ⟨0, by omega, rfl, hF.out, hb1, ⟨_, r0⟩, ⟨_, r1⟩, r2⟩
 case round =>
  clear r0 r1 r2 hb1 hF c0 c1 hsz
  obtain ⟨k, hk, rfl, eR, hb, rA, rB, rF⟩ := hrel
  have cl2 : wr.cell? ⟨w.heap.size + 1, 2, none⟩ = some (.slice pa pl pc) := by
   obtain ⟨_, h_⟩ := rB
   rw [cell_of_row _ _ _ _ _ _ h_]; rfl
  by_cases hlt : k < ps.length
  ·have hd : (k : Int) < (pl : Int) := by have := hpl.out; omega
   obtain ⟨pb, poff, rfl, hpb, hpra⟩ := hpr k hlt
   have hpw := rangeS_keep2 hpra hb hpb
   have hpb2 := Nat.lt_of_lt_of_le hpb (Nat.le_refl _)
   have cP := hide (fun V hV => hck (gx xs k) (gvt ps k) V hV (hVs k hlt))
   have eR1 : FO = match ckT utD flD t.sub (gvt ps k) (deep + 1) with
    | some e => some e
    | none => frsT (fun p => ckT utD flD t.sub p (deep + 1)) (ps.drop (k + 1)) := by
     rw [eR, frsT_drop _ hlt]
     rfl
   clear eR
   obtain ⟨F, hF⟩ : ∃ F, ckT utD flD t.sub (gvt ps k) (deep + 1) = F := ⟨_, rfl⟩
   have hwhy : ∀ f, F = some f → ¬ f.why = 0 := fun f e => ck_why (hF.trans e)
   rw [hF] at eR1 cP
   have eR2 := hide eR1
   have hwh := hide hwhy
   generalize gx xs k = x at *
   obtain ⟨xn, xda, xdl, xdc, xpa, xpl, xpc⟩ := x
   dsimp only at cP
   unfold vrv vrw at hpw
   clear eR1 hwhy hF hpra hpr hVs hck
   go_wp2_with (fail)
   clear cl2
   have hS0 : (fun W : World => Bx W w.heap.size #[.int .i64 no, .int .i64 9, .int .u64 l, .int .u64 mo, .slice so sn sc] ∧ Bx W (w.heap.size + 1) #[.int .u64 (n : Int), .slice da dl dc, .slice (some ⟨pb, poff, none⟩) pl pc] ∧ W.rangeAt pb (poff + k * 3) [.int .u64 (xn : Int), .slice xda xdl xdc, .slice xpa xpl xpc]) wr := ⟨rA, rB, hpw⟩
   refine wp_region_held (S := fun W : World => Bx W w.heap.size #[.int .i64 no, .int .i64 9, .int .u64 l, .int .u64 mo, .slice so sn sc] ∧ Bx W (w.heap.size + 1) #[.int .u64 (n : Int), .slice da dl dc, .slice (some ⟨pb, poff, none⟩) pl pc] ∧ W.rangeAt pb (poff + k * 3) [.int .u64 (xn : Int), .slice xda xdl xdc, .slice xpa xpl xpc]) (by kernel_rfl) ?_
   change wpAnyH _ _ _ _ _ _ _ _ (World.drew _)
   have hbd : Below wr.heap.size wr wr.drew := below_drN (Below.refl _ _) 1
   replace hS0 : (fun W : World => Bx W w.heap.size #[.int .i64 no, .int .i64 9, .int .u64 l, .int .u64 mo, .slice so sn sc] ∧ Bx W (w.heap.size + 1) #[.int .u64 (n : Int), .slice da dl dc, .slice (some ⟨pb, poff, none⟩) pl pc] ∧ W.rangeAt pb (poff + k * 3) [.int .u64 (xn : Int), .slice xda xdl xdc, .slice xpa xpl xpc]) wr.drew := hS0
   replace hb := Below.after hb hbd
   replace rF := keep hbd rF
   clear rA rB hpw hbd
   generalize wr.drew = w1 at *
   refine wpAnyH_take (i := 0) (v := ?v0) rfl (by kernel_rfl) (by kernel_rfl) (by kernel_rfl) (fun _ _ _ h => h) (Or.inl ⟨by rfl, ?y0⟩) hS0 ?r0
   case y0 =>
    intro w_ hS_
    go_simp
    try with_reducible rfl
   simp only [Act.put, List.getElem_toArray, List.getElem_cons_zero, List.setIfInBounds_toArray, List.set_cons_succ, List.set_cons_zero]
   refine wpAnyH_take (i := 1) (v := .slice so sn sc) rfl (by kernel_rfl) (by kernel_rfl) (by kernel_rfl) (fun _ _ _ h => h) (Or.inl ⟨by rfl, ?y1⟩) hS0 ?r1
   case y1 =>
    intro w_ hS_
    obtain ⟨_, h_⟩ := hS_.1
    have c_ := cell_of_row _ _ 4 _ _ _ h_
    go_simp
    try with_reducible rfl
   simp only [Act.put, List.getElem_toArray, List.getElem_cons_succ, List.getElem_cons_zero, List.setIfInBounds_toArray, List.set_cons_succ, List.set_cons_zero]
   refine wpAnyH_take (i := 2) (v := ?v2) rfl (by kernel_rfl) (by kernel_rfl) (by kernel_rfl) (fun _ _ _ h => h) (Or.inl ⟨by rfl, ?y2⟩) hS0 ?r2
   case y2 =>
    intro w_ hS_
    go_simp
    try with_reducible rfl
   simp only [Act.put, List.getElem_toArray, List.getElem_cons_succ, List.getElem_cons_zero, List.setIfInBounds_toArray, List.set_cons_succ, List.set_cons_zero]
   refine wpAnyH_take (i := 3) (v := .slice (some ⟨pb, poff, none⟩) pl pc) rfl (by kernel_rfl) (by kernel_rfl) (by kernel_rfl) (fun _ _ _ h => h) (Or.inl ⟨by rfl, ?y3⟩) hS0 ?r3
   case y3 =>
    intro w_ hS_
    obtain ⟨_, h_⟩ := hS_.2.1
    have c_ := cell_of_row _ _ 2 _ _ _ h_
    go_simp
    try with_reducible rfl
   simp only [Act.put, List.getElem_toArray, List.getElem_cons_succ, List.getElem_cons_zero, List.setIfInBounds_toArray, List.set_cons_succ, List.set_cons_zero]
   refine wpAnyH_take (i := 4) (v := ?v4) rfl (by kernel_rfl) (by kernel_rfl) (by kernel_rfl) (fun _ _ _ h => h) (Or.inl ⟨by rfl, ?y4⟩) hS0 ?r4
   case y4 =>
    intro w_ hS_
    go_simp
    try with_reducible rfl
   simp only [Act.put, List.getElem_toArray, List.getElem_cons_succ, List.getElem_cons_zero, List.setIfInBounds_toArray, List.set_cons_succ, List.set_cons_zero]
   refine wpAnyH_take (i := 5) (v := ?v5) rfl (by kernel_rfl) (by kernel_rfl) (by kernel_rfl) (fun _ _ _ h => h) (Or.inl ⟨by rfl, ?y5⟩) hS0 ?r5
   case y5 =>
    intro w_ hS_
    go_simp
    try with_reducible rfl
   simp only [Act.put, List.getElem_toArray, List.getElem_cons_succ, List.getElem_cons_zero, List.setIfInBounds_toArray, List.set_cons_succ, List.set_cons_zero]
   refine wpAnyH_take (i := 6) (v := .agg #[.int .u64 (xn : Int), .slice xda xdl xdc, .slice xpa xpl xpc]) rfl (by kernel_rfl) (by kernel_rfl) (by kernel_rfl) (fun _ _ _ h => h) (yieldsIf_load_mid (by rfl) 27 _ rfl pb (poff + k * 3) rfl [.int .u64 (xn : Int), .slice xda xdl xdc, .slice xpa xpl xpc] _ (fun _ h => h.2.2) Tryz.underlying27 rfl infoV) hS0 ?_
   simp only [Act.put, List.getElem_toArray, List.getElem_cons_succ, List.getElem_cons_zero, List.setIfInBounds_toArray, List.set_cons_succ, List.set_cons_zero]
   refine wpAnyH_take (i := 7) (v := ?v7) rfl (by kernel_rfl) (by kernel_rfl) (by kernel_rfl) (fun _ _ _ h => h) (Or.inl ⟨by rfl, ?y7⟩) hS0 ?r7
   case y7 =>
    intro w_ hS_
    go_simp
    try with_reducible rfl
   simp only [Act.put, List.getElem_toArray, List.getElem_cons_succ, List.getElem_cons_zero, List.setIfInBounds_toArray, List.set_cons_succ, List.set_cons_zero]
   refine wpAnyH_take (i := 8) (v := ?v8) rfl (by kernel_rfl) (by kernel_rfl) (by kernel_rfl) (fun _ _ _ h => h) (Or.inl ⟨by rfl, ?y8⟩) hS0 ?r8
   case y8 =>
    intro w_ hS_
    go_simp
    try rw [hwr]
    try with_reducible rfl
   simp only [Act.put, List.getElem_toArray, List.getElem_cons_succ, List.getElem_cons_zero, List.setIfInBounds_toArray, List.set_cons_succ, List.set_cons_zero]
   refine wpAnyH_two (j := 9) (k := 10) (fuel := 2) (by kernel_rfl) rfl rfl (by kernel_rfl) (by kernel_rfl) (fun K_ hK => ?_) (fun K_ hK => ?_)
   ·have cX := (cP.out w1 hb).mono (fun e w' h => (⟨_, h.1, rfl, h.2⟩ : ∃ v, e = .returned v ∧ v = .agg (flr F) ∧ Below w1.heap.size w1 w'))
    refine wp_call_ex (R := fun v w' => v = .agg (flr F) ∧ Below w1.heap.size w1 w') (by kernel_rfl) cX (fun v_ w2 hX_ => ?_)
    obtain ⟨rfl, hbx⟩ := hX_
    replace hS0 : (fun W : World => Bx W w.heap.size #[.int .i64 no, .int .i64 9, .int .u64 l, .int .u64 mo, .slice so sn sc] ∧ Bx W (w.heap.size + 1) #[.int .u64 (n : Int), .slice da dl dc, .slice (some ⟨pb, poff, none⟩) pl pc] ∧ W.rangeAt pb (poff + k * 3) [.int .u64 (xn : Int), .slice xda xdl xdc, .slice xpa xpl xpc]) w2 := ⟨hS0.1.keep hbx, hS0.2.1.keep hbx, rangeS_keep2 hS0.2.2 hbx (Nat.lt_of_lt_of_le hpb2 (by have := hS0.1.lt; omega))⟩
    replace hb := Below.after hb hbx
    replace rF := keep hbx rF
    refine hK _ _ hS0 ?_
    simp only [Act.put, List.getElem_toArray, List.getElem_cons_succ, List.getElem_cons_zero, List.setIfInBounds_toArray, List.set_cons_succ, List.set_cons_zero]
    clear hK
    clear cX hbx
    refine wpAnyH_one (k := 10) (fuel := 1) (by kernel_rfl) rfl (by kernel_rfl) (fun K_ hK => ?_)
    refine wp_val_op (.pointer (some ⟨w2.heap.size, 0, none⟩)) (w' := w2.alloc (.cells #[.int .i64 0, .int .i64 0, .int .i64 0] 41)) (by kernel_rfl) ?_
    have hba : Below w2.heap.size w2 (w2.alloc (.cells #[.int .i64 0, .int .i64 0, .int .i64 0] 41)) := (Below.refl _ _).alloc (Nat.le_refl _) _
    have rG := hp1_0 w2 (.cells #[.int .i64 0, .int .i64 0, .int .i64 0] 41)
    have hgl : w.heap.size + 1 + 1 < w2.heap.size := lt_of_row rF
    replace hS0 : (fun W : World => Bx W w.heap.size #[.int .i64 no, .int .i64 9, .int .u64 l, .int .u64 mo, .slice so sn sc] ∧ Bx W (w.heap.size + 1) #[.int .u64 (n : Int), .slice da dl dc, .slice (some ⟨pb, poff, none⟩) pl pc] ∧ W.rangeAt pb (poff + k * 3) [.int .u64 (xn : Int), .slice xda xdl xdc, .slice xpa xpl xpc]) (w2.alloc (.cells #[.int .i64 0, .int .i64 0, .int .i64 0] 41)) := ⟨hS0.1.keep hba, hS0.2.1.keep hba, rangeS_keep2 hS0.2.2 hba (Nat.lt_of_lt_of_le hpb2 (by have := hS0.1.lt; omega))⟩
    replace hb := Below.after hb hba
    replace rF := keep hba rF
    refine hK _ _ hS0 ?_
    simp only [Act.put, List.getElem_toArray, List.getElem_cons_succ, List.getElem_cons_zero, List.setIfInBounds_toArray, List.set_cons_succ, List.set_cons_zero]
    clear hK
    clear hba
    generalize w2.alloc (.cells #[.int .i64 0, .int .i64 0, .int .i64 0] 41) = w4 at *
    generalize w2.heap.size = gf at *
    cases F with
    | none =>
     have hone : (#[Value.int .i64 0, .int .i64 0, .int .i64 0] : Array Value).all (·.oneCell') = true := by simp [Value.oneCell']
     refine wpAnyH_one (k := 11) (fuel := 0) (by kernel_rfl) rfl (by kernel_rfl) (fun K_ hK => ?_)
     refine wp_store_row 41 _ _ rfl gf #[.int .i64 0, .int .i64 0, .int .i64 0] rfl rfl 41 _ rG infoFt rfl hone ?_
     have hgw := lt_of_row rG
     have rG5 := setRow_heap w4 gf _ #[.int .i64 0, .int .i64 0, .int .i64 0] _ _ rG
     have rF5 := (setRow_other w4 gf (w.heap.size + 1 + 1) #[.int .i64 0, .int .i64 0, .int .i64 0] (by omega)).trans rF
     have hb5 := below_setRow (g := gf) hb (by omega) #[.int .i64 0, .int .i64 0, .int .i64 0]
     refine hK _ _ ⟨hS0.1.row (by omega), hS0.2.1.row (by omega), range_same hS0.2.2 (setRow_other w4 gf pb _ (by omega))⟩ ?_
     obtain ⟨TA, rA4⟩ := hS0.1
     obtain ⟨TB, rB4⟩ := hS0.2.1
     have rA5 := (setRow_other w4 gf w.heap.size #[.int .i64 0, .int .i64 0, .int .i64 0] (by omega)).trans rA4
     have rB5 := (setRow_other w4 gf (w.heap.size + 1) #[.int .i64 0, .int .i64 0, .int .i64 0] (by omega)).trans rB4
     simp only [Act.put, List.getElem_toArray, List.getElem_cons_succ, List.getElem_cons_zero]
     clear hK hS0 rG rF hb rA4 rB4 cP
     generalize w4.setRow gf #[.int .i64 0, .int .i64 0, .int .i64 0] = w5 at *
     have c2 : w5.cell? ⟨gf, 2, none⟩ = some (.int .i64 0) := by rw [cell_of_row _ _ _ _ _ _ rG5]; rfl
     have B1 := hide hb5
     have B2 := hide rA5
     have B4 := hide rB5
     have B3 := hide rF5
     clear hb5 rA5 rB5 rF5 rG5
     refine wpAnyH_done (by kernel_rfl) ?_ _
     go_wp2_with (fail)
     refine ⟨⟨k + 1, by omega, by first | omega | (push_cast; rfl), eR2.out, B1.out, ⟨_, B2.out⟩, ⟨_, B4.out⟩, B3.out⟩, ?_⟩
     simp [intOf]; omega
    | some f =>
     have hone : (#[Value.int .i64 f.line, .int .i64 f.at_, .int .i64 f.why] : Array Value).all (·.oneCell') = true := by simp [Value.oneCell']
     refine wpAnyH_one (k := 11) (fuel := 0) (by kernel_rfl) rfl (by kernel_rfl) (fun K_ hK => ?_)
     refine wp_store_row 41 _ _ rfl gf #[.int .i64 f.line, .int .i64 f.at_, .int .i64 f.why] rfl rfl 41 _ rG infoFt rfl hone ?_
     have hgw := lt_of_row rG
     have rG5 := setRow_heap w4 gf _ #[.int .i64 f.line, .int .i64 f.at_, .int .i64 f.why] _ _ rG
     have rF5 := (setRow_other w4 gf (w.heap.size + 1 + 1) #[.int .i64 f.line, .int .i64 f.at_, .int .i64 f.why] (by omega)).trans rF
     have hb5 := below_setRow (g := gf) hb (by omega) #[.int .i64 f.line, .int .i64 f.at_, .int .i64 f.why]
     refine hK _ _ ⟨hS0.1.row (by omega), hS0.2.1.row (by omega), range_same hS0.2.2 (setRow_other w4 gf pb _ (by omega))⟩ ?_
     obtain ⟨TA, rA4⟩ := hS0.1
     obtain ⟨TB, rB4⟩ := hS0.2.1
     have rA5 := (setRow_other w4 gf w.heap.size #[.int .i64 f.line, .int .i64 f.at_, .int .i64 f.why] (by omega)).trans rA4
     have rB5 := (setRow_other w4 gf (w.heap.size + 1) #[.int .i64 f.line, .int .i64 f.at_, .int .i64 f.why] (by omega)).trans rB4
     simp only [Act.put, List.getElem_toArray, List.getElem_cons_succ, List.getElem_cons_zero]
     clear hK hS0 rG rF hb rA4 rB4 cP
     generalize w4.setRow gf #[.int .i64 f.line, .int .i64 f.at_, .int .i64 f.why] = w5 at *
     have c2 : w5.cell? ⟨gf, 2, none⟩ = some (.int .i64 f.why) := by rw [cell_of_row _ _ _ _ _ _ rG5]; rfl
     have hw1 := hwh.out f rfl
     have hw2 : (f.why == 0) = false := by simpa using hw1
     have r6 := setRow_heap w5 (w.heap.size + 1 + 1) _ #[.int .i64 f.line, .int .i64 f.at_, .int .i64 f.why] _ _ rF5
     have hb6 := below_setRow (g := w.heap.size + 1 + 1) hb5 (by omega) #[.int .i64 f.line, .int .i64 f.at_, .int .i64 f.why]
     have B1 := hide hb6
     have B2 := hide r6
     clear hb5 hb6 r6 rA5 rB5
     refine wpAnyH_done (by kernel_rfl) ?_ _
     go_wp2_with (first | (refine wpList_load_want rfl 41 _ rfl gf rfl 41 _ (0, 0) _ rG5 Tryz.underlying41 rfl infoFt ?_) | (refine wpList_store_row rfl 41 _ _ rfl (w.heap.size + 1 + 1) #[.int .i64 f.line, .int .i64 f.at_, .int .i64 f.why] rfl rfl 41 _ rF5 infoFt rfl hone ?_) | fail)
     exact bodyPost_ret (v := .agg #[.int .i64 f.line, .int .i64 f.at_, .int .i64 f.why]) (results_cell_row Tryz.results52 _ _ (w.heap.size + 1 + 1) _ _ _ _ rfl B2.out Tryz.underlying41 rfl infoFt) rfl ⟨by rw [eR2.out]; rfl, B1.out⟩
   ·refine wp_val_op (.pointer (some ⟨w1.heap.size, 0, none⟩)) (w' := w1.alloc (.cells #[.int .i64 0, .int .i64 0, .int .i64 0] 41)) (by kernel_rfl) ?_
    have hba : Below w1.heap.size w1 (w1.alloc (.cells #[.int .i64 0, .int .i64 0, .int .i64 0] 41)) := (Below.refl _ _).alloc (Nat.le_refl _) _
    have rG := hp1_0 w1 (.cells #[.int .i64 0, .int .i64 0, .int .i64 0] 41)
    have hgl : w.heap.size + 1 + 1 < w1.heap.size := lt_of_row rF
    replace hS0 : (fun W : World => Bx W w.heap.size #[.int .i64 no, .int .i64 9, .int .u64 l, .int .u64 mo, .slice so sn sc] ∧ Bx W (w.heap.size + 1) #[.int .u64 (n : Int), .slice da dl dc, .slice (some ⟨pb, poff, none⟩) pl pc] ∧ W.rangeAt pb (poff + k * 3) [.int .u64 (xn : Int), .slice xda xdl xdc, .slice xpa xpl xpc]) (w1.alloc (.cells #[.int .i64 0, .int .i64 0, .int .i64 0] 41)) := ⟨hS0.1.keep hba, hS0.2.1.keep hba, rangeS_keep2 hS0.2.2 hba (Nat.lt_of_lt_of_le hpb2 (by have := hS0.1.lt; omega))⟩
    replace hb := Below.after hb hba
    replace rF := keep hba rF
    refine hK _ _ hS0 ?_
    simp only [Act.put, List.getElem_toArray, List.getElem_cons_succ, List.getElem_cons_zero, List.setIfInBounds_toArray, List.set_cons_succ, List.set_cons_zero]
    clear hK
    clear hba
    generalize w1.alloc (.cells #[.int .i64 0, .int .i64 0, .int .i64 0] 41) = w3 at *
    generalize w1.heap.size = gf at *
    refine wpAnyH_one (k := 9) (fuel := 1) (by kernel_rfl) rfl (by kernel_rfl) (fun K_ hK => ?_)
    have cX := (cP.out w3 hb).mono (fun e w' h => (⟨_, h.1, rfl, h.2⟩ : ∃ v, e = .returned v ∧ v = .agg (flr F) ∧ Below w3.heap.size w3 w'))
    refine wp_call_ex (R := fun v w' => v = .agg (flr F) ∧ Below w3.heap.size w3 w') (by kernel_rfl) cX (fun v_ w4 hX_ => ?_)
    obtain ⟨rfl, hbx⟩ := hX_
    replace hS0 : (fun W : World => Bx W w.heap.size #[.int .i64 no, .int .i64 9, .int .u64 l, .int .u64 mo, .slice so sn sc] ∧ Bx W (w.heap.size + 1) #[.int .u64 (n : Int), .slice da dl dc, .slice (some ⟨pb, poff, none⟩) pl pc] ∧ W.rangeAt pb (poff + k * 3) [.int .u64 (xn : Int), .slice xda xdl xdc, .slice xpa xpl xpc]) w4 := ⟨hS0.1.keep hbx, hS0.2.1.keep hbx, rangeS_keep2 hS0.2.2 hbx (Nat.lt_of_lt_of_le hpb2 (by have := hS0.1.lt; omega))⟩
    replace hb := Below.after hb hbx
    replace rF := keep hbx rF
    replace rG := keep hbx rG
    refine hK _ _ hS0 ?_
    simp only [Act.put, List.getElem_toArray, List.getElem_cons_succ, List.getElem_cons_zero, List.setIfInBounds_toArray, List.set_cons_succ, List.set_cons_zero]
    clear hK
    clear cX hbx
    cases F with
    | none =>
     have hone : (#[Value.int .i64 0, .int .i64 0, .int .i64 0] : Array Value).all (·.oneCell') = true := by simp [Value.oneCell']
     refine wpAnyH_one (k := 11) (fuel := 0) (by kernel_rfl) rfl (by kernel_rfl) (fun K_ hK => ?_)
     refine wp_store_row 41 _ _ rfl gf #[.int .i64 0, .int .i64 0, .int .i64 0] rfl rfl 41 _ rG infoFt rfl hone ?_
     have hgw := lt_of_row rG
     have rG5 := setRow_heap w4 gf _ #[.int .i64 0, .int .i64 0, .int .i64 0] _ _ rG
     have rF5 := (setRow_other w4 gf (w.heap.size + 1 + 1) #[.int .i64 0, .int .i64 0, .int .i64 0] (by omega)).trans rF
     have hb5 := below_setRow (g := gf) hb (by omega) #[.int .i64 0, .int .i64 0, .int .i64 0]
     refine hK _ _ ⟨hS0.1.row (by omega), hS0.2.1.row (by omega), range_same hS0.2.2 (setRow_other w4 gf pb _ (by omega))⟩ ?_
     obtain ⟨TA, rA4⟩ := hS0.1
     obtain ⟨TB, rB4⟩ := hS0.2.1
     have rA5 := (setRow_other w4 gf w.heap.size #[.int .i64 0, .int .i64 0, .int .i64 0] (by omega)).trans rA4
     have rB5 := (setRow_other w4 gf (w.heap.size + 1) #[.int .i64 0, .int .i64 0, .int .i64 0] (by omega)).trans rB4
     simp only [Act.put, List.getElem_toArray, List.getElem_cons_succ, List.getElem_cons_zero]
     clear hK hS0 rG rF hb rA4 rB4 cP
     generalize w4.setRow gf #[.int .i64 0, .int .i64 0, .int .i64 0] = w5 at *
     have c2 : w5.cell? ⟨gf, 2, none⟩ = some (.int .i64 0) := by rw [cell_of_row _ _ _ _ _ _ rG5]; rfl
     have B1 := hide hb5
     have B2 := hide rA5
     have B4 := hide rB5
     have B3 := hide rF5
     clear hb5 rA5 rB5 rF5 rG5
     refine wpAnyH_done (by kernel_rfl) ?_ _
     go_wp2_with (fail)
     refine ⟨⟨k + 1, by omega, by first | omega | (push_cast; rfl), eR2.out, B1.out, ⟨_, B2.out⟩, ⟨_, B4.out⟩, B3.out⟩, ?_⟩
     simp [intOf]; omega
    | some f =>
     have hone : (#[Value.int .i64 f.line, .int .i64 f.at_, .int .i64 f.why] : Array Value).all (·.oneCell') = true := by simp [Value.oneCell']
     refine wpAnyH_one (k := 11) (fuel := 0) (by kernel_rfl) rfl (by kernel_rfl) (fun K_ hK => ?_)
     refine wp_store_row 41 _ _ rfl gf #[.int .i64 f.line, .int .i64 f.at_, .int .i64 f.why] rfl rfl 41 _ rG infoFt rfl hone ?_
     have hgw := lt_of_row rG
     have rG5 := setRow_heap w4 gf _ #[.int .i64 f.line, .int .i64 f.at_, .int .i64 f.why] _ _ rG
     have rF5 := (setRow_other w4 gf (w.heap.size + 1 + 1) #[.int .i64 f.line, .int .i64 f.at_, .int .i64 f.why] (by omega)).trans rF
     have hb5 := below_setRow (g := gf) hb (by omega) #[.int .i64 f.line, .int .i64 f.at_, .int .i64 f.why]
     refine hK _ _ ⟨hS0.1.row (by omega), hS0.2.1.row (by omega), range_same hS0.2.2 (setRow_other w4 gf pb _ (by omega))⟩ ?_
     obtain ⟨TA, rA4⟩ := hS0.1
     obtain ⟨TB, rB4⟩ := hS0.2.1
     have rA5 := (setRow_other w4 gf w.heap.size #[.int .i64 f.line, .int .i64 f.at_, .int .i64 f.why] (by omega)).trans rA4
     have rB5 := (setRow_other w4 gf (w.heap.size + 1) #[.int .i64 f.line, .int .i64 f.at_, .int .i64 f.why] (by omega)).trans rB4
     simp only [Act.put, List.getElem_toArray, List.getElem_cons_succ, List.getElem_cons_zero]
     clear hK hS0 rG rF hb rA4 rB4 cP
     generalize w4.setRow gf #[.int .i64 f.line, .int .i64 f.at_, .int .i64 f.why] = w5 at *
     have c2 : w5.cell? ⟨gf, 2, none⟩ = some (.int .i64 f.why) := by rw [cell_of_row _ _ _ _ _ _ rG5]; rfl
     have hw1 := hwh.out f rfl
     have hw2 : (f.why == 0) = false := by simpa using hw1
     have r6 := setRow_heap w5 (w.heap.size + 1 + 1) _ #[.int .i64 f.line, .int .i64 f.at_, .int .i64 f.why] _ _ rF5
     have hb6 := below_setRow (g := w.heap.size + 1 + 1) hb5 (by omega) #[.int .i64 f.line, .int .i64 f.at_, .int .i64 f.why]
     have B1 := hide hb6
     have B2 := hide r6
     clear hb5 hb6 r6 rA5 rB5
     refine wpAnyH_done (by kernel_rfl) ?_ _
     go_wp2_with (first | (refine wpList_load_want rfl 41 _ rfl gf rfl 41 _ (0, 0) _ rG5 Tryz.underlying41 rfl infoFt ?_) | (refine wpList_store_row rfl 41 _ _ rfl (w.heap.size + 1 + 1) #[.int .i64 f.line, .int .i64 f.at_, .int .i64 f.why] rfl rfl 41 _ rF5 infoFt rfl hone ?_) | fail)
     exact bodyPost_ret (v := .agg #[.int .i64 f.line, .int .i64 f.at_, .int .i64 f.why]) (results_cell_row Tryz.results52 _ _ (w.heap.size + 1 + 1) _ _ _ _ rfl B2.out Tryz.underlying41 rfl infoFt) rfl ⟨by rw [eR2.out]; rfl, B1.out⟩
  ·have hd : (pl : Int) ≤ (k : Int) := by have := hpl.out; omega
   obtain rfl : k = ps.length := by omega
   rw [List.drop_length, frsT] at eR
   replace eR := hide eR
   obtain ⟨TA, rA⟩ := rA
   have hsz := lt_of_row rF
   clear hpr hVs hck
   have hone : (#[Value.int .i64 0, .int .i64 0, .int .i64 0] : Array Value).all (·.oneCell') = true := by simp [Value.oneCell']
   have r3 := setRow_heap wr (w.heap.size + 1 + 1) _ #[.int .i64 0, .int .i64 0, .int .i64 0] _ _ rF
   have hb3 := below_setRow (g := w.heap.size + 1 + 1) hb (by omega) #[.int .i64 0, .int .i64 0, .int .i64 0]
   have A1 := hide r3
   have A2 := hide hb3
   clear r3 hb3
   go_wp2_with (first | (refine wpList_store_row rfl 41 _ _ rfl (w.heap.size + 1 + 1) #[.int .i64 0, .int .i64 0, .int .i64 0] rfl rfl 41 _ rF infoFt rfl hone ?_) | fail)
   exact bodyPost_ret (v := .agg #[.int .i64 0, .int .i64 0, .int .i64 0]) (results_cell_row Tryz.results52 _ _ (w.heap.size + 1 + 1) _ _ _ _ rfl A1.out Tryz.underlying41 rfl infoFt) rfl ⟨by rw [eR.out]; rfl, A2.out⟩
theorem r_checkA : ∀ (m : Nat) (ts : List Slt), htT ts ≤ (m : Int) → gd ts → ∀ (S : Nat → Prop) (sv : Value) (x : VR) (X : VT) (deep : Int) (w : World), 0 ≤ deep → deep + htT ts ≤ 9223372036854775807 → Slo w sv ts → VtM w S x X → Calls Tryz.prog 34 #[sv, .agg (vrv x), .int .i64 deep] w fun e w' => e = .returned (.agg (flr (ckT utD flD ts X deep))) ∧ Below w.heap.size w w' := by
 intro m
 induction m with
 | zero =>
  intro ts hh _ S sv x X deep w hd hd2 h hX
  refine r_checkN S x X deep w h hX (fun k hk => ?_)
  have := htT_sub ts k hk
  have := htT_pos (gs ts k).sub
  omega
 | succ m ih =>
  intro ts hh hg S sv x X deep w hd hd2 h hX
  refine r_checkN S x X deep w h hX (fun k hk u y Y V hV hu hY => ?_)
  have hs := htT_sub ts k hk
  have hp := htT_pos (gs ts k).sub
  have hgk := (gd_at ts k hk hg).2
  obtain ⟨so, sc, rfl⟩ := hu.form
  refine r_partN (S := S) hgk.1 y Y deep hd (by omega) V (hY.blw hV) (fun z Z V2 hV2 hZ => ?_)
  have hgs : gd (gs ts k).sub := gd_subs hgk.1 hgk.2
  exact ih (gs ts k).sub (by omega) hgs S _ z Z (deep + 1) V2 (by omega) (by omega) ((hu.keep hV).keep hV2) (hZ.blw hV2)
end Go.Proofs.YtmmlkfkpblokiaaGreatDoor
namespace Go.Proofs.YtmmlkfkpblokiaaGreatDoor
set_option maxRecDepth 100000
open Go Go.RowKit Go.Sort
attribute [local go_sem] setCell_drewN alloc_drewN
set_option maxHeartbeats 1000000 in
theorem r_known (t : Int) : Gives 80 #[.int .i64 t] (.bool (decide (known t))) := by
 intro w
 by_cases hk : known t
 ·rw [decide_eq_true hk]
  rcases hk with rfl | rfl | rfl | rfl
  all_goals
   go_enter Tryz.func80, Tryz.ntmps80
   go_wp2_with (fail)
   go_ret
   exact ⟨rfl, Below.refl _ _⟩
 ·rw [decide_eq_false hk]
  have q0 : (t == 0) = false := by unfold known at hk; simp; omega
  have q1 : (t == 1) = false := by unfold known at hk; simp; omega
  have q2 : (t == 2) = false := by unfold known at hk; simp; omega
  have q5 : (t == 5) = false := by unfold known at hk; simp; omega
  clear hk
  go_enter Tryz.func80, Tryz.ntmps80
  go_wp2_with (fail)
  go_ret
  exact ⟨rfl, Below.refl _ _⟩
theorem fits_iff (f : Fd) : fits f ↔ if f.ty = 2 then f.num = 0 else f.dat = [] ∧ (f.ty = 5 → f.num ≤ 4294967295) := Iff.rfl
set_option maxHeartbeats 4000000 in
theorem r_fits (f : Fd) (ao : Option Addr) (cap : Nat) : Gives 81 #[fagg f (.slice ao f.dat.length cap)] (.bool (decide (fits f))) := by
 intro w
 have hf2 := fits_iff f
 obtain ⟨u, hue⟩ : ∃ u, Value.slice ao f.dat.length cap = u := ⟨_, rfl⟩
 rw [hue]
 unfold fagg
 have R0 := hp1_0 w (.cells #[.int .i64 f.no, .int .i64 f.ty, .int .u64 (f.num : Int), u] 118)
 have hw : Below w.heap.size w (w.alloc (.cells #[.int .i64 f.no, .int .i64 f.ty, .int .u64 (f.num : Int), u] 118)) := (Below.refl _ _).alloc (Nat.le_refl _) _
 have c0 : (w.alloc (.cells #[.int .i64 f.no, .int .i64 f.ty, .int .u64 (f.num : Int), u] 118)).cell? ⟨w.heap.size, 0, none⟩ = some (.int .i64 f.no) := cell_of_row _ _ _ _ _ _ R0
 have c1 : (w.alloc (.cells #[.int .i64 f.no, .int .i64 f.ty, .int .u64 (f.num : Int), u] 118)).cell? ⟨w.heap.size, 1, none⟩ = some (.int .i64 f.ty) := cell_of_row _ _ _ _ _ _ R0
 have c2 : (w.alloc (.cells #[.int .i64 f.no, .int .i64 f.ty, .int .u64 (f.num : Int), u] 118)).cell? ⟨w.heap.size, 2, none⟩ = some (.int .u64 (f.num : Int)) := cell_of_row _ _ _ _ _ _ R0
 have c3 : (w.alloc (.cells #[.int .i64 f.no, .int .i64 f.ty, .int .u64 (f.num : Int), u] 118)).cell? ⟨w.heap.size, 3, none⟩ = some (u) := cell_of_row _ _ _ _ _ _ R0
 go_enter Tryz.func81, Tryz.ntmps81
 subst hue
 clear R0
 by_cases t2 : f.ty = 2
 ·rw [if_pos t2] at hf2
  have q2 : (f.ty == 2) = true := by simpa using t2
  by_cases q : f.num = 0
  ·have hd : decide (fits f) = true := decide_eq_true (hf2.2 q)
   have d2 : ((f.num : Int) == 0) = true := by simpa using q
   replace hd := hide hd
   replace q := hide q
   replace t2 := hide t2
   clear hf2
   go_wp2_with (fail)
   go_ret
   exact ⟨by rw [hd.out]; rfl, hw⟩
  ·have hd : decide (fits f) = false := decide_eq_false (fun h => q (hf2.1 h))
   have d2 : ((f.num : Int) == 0) = false := by simpa using q
   replace hd := hide hd
   replace q := hide q
   replace t2 := hide t2
   clear hf2
   go_wp2_with (fail)
   go_ret
   exact ⟨by rw [hd.out]; rfl, hw⟩
 ·rw [if_neg t2] at hf2
  have q2 : (f.ty == 2) = false := by simpa using t2
  by_cases q : f.dat = []
  ·have hl : ((f.dat.length : Int) == 0) = true := by rw [q]; rfl
   by_cases t5 : f.ty = 5
   ·have q5 : (f.ty == 5) = true := by simpa using t5
    by_cases qn : f.num ≤ 4294967295
    ·have hd : decide (fits f) = true := decide_eq_true (hf2.2 ⟨q, fun _ => qn⟩)
     have d2 : decide ((f.num : Int) ≤ 4294967295) = true := by simp; omega
     replace hd := hide hd
     replace t5 := hide t5
     replace q := hide q
     clear hf2
     go_wp2_with (fail)
     go_ret
     exact ⟨by rw [hd.out]; rfl, by first | exact hw | (rw [t5.out] at hw; exact hw)⟩
    ·have hd : decide (fits f) = false := decide_eq_false (fun h => qn ((hf2.1 h).2 t5))
     have d2 : decide ((f.num : Int) ≤ 4294967295) = false := by simp; omega
     replace hd := hide hd
     replace t5 := hide t5
     replace q := hide q
     clear hf2
     go_wp2_with (fail)
     go_ret
     exact ⟨by rw [hd.out]; rfl, by first | exact hw | (rw [t5.out] at hw; exact hw)⟩
   ·have hd : decide (fits f) = true := decide_eq_true (hf2.2 ⟨q, fun h => absurd h t5⟩)
    have q5 : (f.ty == 5) = false := by simpa using t5
    replace hd := hide hd
    replace q := hide q
    clear hf2
    go_wp2_with (fail)
    go_ret
    exact ⟨by rw [hd.out]; rfl, hw⟩
  ·have hd : decide (fits f) = false := decide_eq_false (fun h => q (hf2.1 h).1)
   have hl : ((f.dat.length : Int) == 0) = false := by
    have : f.dat.length ≠ 0 := fun h => q (List.eq_nil_of_length_eq_zero h)
    simp; omega
   replace hd := hide hd
   clear hf2 q
   go_wp2_with (fail)
   go_ret
   exact ⟨by rw [hd.out]; rfl, hw⟩
theorem by_rem (n : Nat) : (n : Int) % 256 = bv (BitVec.ofNat 8 (n % 256)) := by_mod n
set_option maxRecDepth 100000 in
set_option maxHeartbeats 2000000 in
theorem r_low (n k : Nat) (hn : n < 18446744073709551616) (hk : k ≤ 8) (w : World) : Calls Tryz.prog 107 #[.int .u64 (n : Int), .int .i64 (k : Int)] w fun e w' => ∃ u, e = .returned u ∧ Own w' w.heap.size u (fx k n) ∧ Below w.heap.size w w' := by
 have hO0 := own_nil w
 have hw0 : Below w.heap.size w (w.alloc (.cells #[] 5)) := (Below.refl _ _).alloc (Nat.le_refl _) _
 go_enter Tryz.func107, Tryz.ntmps107
 go_wp2_with (fail)
 generalize w.alloc (.cells #[] 5) = w0 at *
 go_loopw [0, 5, 6] (fun m s i wr => ∃ (j : Nat) (ao : Option Addr) (ac : Nat), j ≤ k ∧ i = .int .i64 (j : Int) ∧ m = .int .u64 ((n / 256 ^ j : Nat) : Int) ∧ s = .slice ao j ac ∧ Own wr w.heap.size (.slice ao j ac) (fx j n) ∧ Below w.heap.size w wr) (fun _ _ i _ => k - (intOf i).toNat)
 case atStart => exact ⟨0, _, _, by omega, rfl, by rw [Nat.pow_zero, Nat.div_one], rfl, hO0, hw0⟩
 case round =>
  clear hO0 hw0
  obtain ⟨j, ao, ac, hj, rfl, rfl, rfl, hO, hw⟩ := hrel
  have hws := hw.size
  by_cases hlt : j < k
  ·have hd : decide ((j : Int) < (k : Int)) = true := by simp; omega
   have hsn : Hid (fx (j + 1) n = fx j n ++ [BitVec.ofNat 8 (n / 256 ^ j % 256)]) := hide (fx_snoc j n)
   have hdv : Hid (n / 256 ^ (j + 1) = n / 256 ^ j / 256) := hide (by rw [Nat.div_div_eq_div_mul, Nat.pow_succ])
   have hml : n / 256 ^ j < 18446744073709551616 := Nat.lt_of_le_of_lt (Nat.div_le_self _ _) hn
   have hfl : (fx j n).length = j := fx_len j n
   replace hfl := hide hfl
   generalize n / 256 ^ j = M at *
   go_wp2_with (at_builtin; suffices h9 : True ∧ _ from h9.2)
   refine ⟨trivial, ?_⟩
   refine wpList_append_B rfl (.tmp 13) (.tmp 17) rfl w.heap.size _ (fx j n) rfl (own_alloc hO _) _ [BitVec.ofNat 8 (M % 256)] rfl (by first | (rw [by_rem]; exact bys_one _ _)) (by rw [hfl.out]; simp only [List.length_singleton]; omega) (by rw [size_alloc1]; omega) ?_
   intro v2 w2 hO2 hgr
   have hw2 : Below w.heap.size w w2 := (hw.alloc (by omega) _).grown hgr (by rw [size_alloc1]; omega) (own_low hO)
   rw [← hsn.out] at hO2
   obtain ⟨ao2, ac2, hv2⟩ := slen_own hO2
   rw [fx_len] at hv2
   subst hv2
   clear hgr hO hw
   go_wp2_with (fail)
   refine ⟨⟨j + 1, ao2, ac2, by omega, by go_num, by rw [hdv.out]; rfl, rfl, hO2, hw2⟩, ?_⟩
   simp [intOf]; omega
  ·obtain rfl : j = k := by omega
   have hd : decide ((j : Int) < (j : Int)) = false := by simp
   go_wp2_with (fail)
   go_ret
   exact ⟨_, rfl, hO, hw⟩
set_option maxHeartbeats 4000000 in
theorem r_one (f : Fd) (w : World) (ao : Option Addr) (cap : Nat) (hu : BysB w (.slice ao f.dat.length cap) f.dat) (hf : Fok f) (h0 : 0 ≤ f.no) (h1 : f.no ≤ 536870911) (hk : known f.ty) : Calls Tryz.prog 82 #[fagg f (.slice ao f.dat.length cap)] w fun e w' => ∃ x, e = .returned x ∧ Own w' w.heap.size x (fby f) ∧ Below w.heap.size w w' := by
 have ht := known_lt hk
 have hhl := Fok.hd h1 ht.2
 have hten := en_ten hhl
 have hvl : fvl f = if f.ty = 0 then en f.num else if f.ty = 1 then fx 8 f.num else if f.ty = 5 then fx 4 f.num else itm f.dat := rfl
 have hfb : fby f = en (fhd f) ++ fvl f := rfl
 have hfd := hf.2.1
 have hnum := hf.1
 have hhd : 8 * f.no + f.ty = ((fhd f : Nat) : Int) := by unfold fhd; omega
 have ht9 := en_ten hnum
 obtain ⟨u, hue⟩ : ∃ u, Value.slice ao f.dat.length cap = u := ⟨_, rfl⟩
 rw [hue]
 unfold fagg
 have R0 := hp1_0 w (.cells #[.int .i64 f.no, .int .i64 f.ty, .int .u64 (f.num : Int), u] 118)
 have hw : Below w.heap.size w (w.alloc (.cells #[.int .i64 f.no, .int .i64 f.ty, .int .u64 (f.num : Int), u] 118)) := (Below.refl _ _).alloc (Nat.le_refl _) _
 have c0 : (w.alloc (.cells #[.int .i64 f.no, .int .i64 f.ty, .int .u64 (f.num : Int), u] 118)).cell? ⟨w.heap.size, 0, none⟩ = some (.int .i64 f.no) := cell_of_row _ _ _ _ _ _ R0
 have c1 : (w.alloc (.cells #[.int .i64 f.no, .int .i64 f.ty, .int .u64 (f.num : Int), u] 118)).cell? ⟨w.heap.size, 1, none⟩ = some (.int .i64 f.ty) := cell_of_row _ _ _ _ _ _ R0
 have c2 : (w.alloc (.cells #[.int .i64 f.no, .int .i64 f.ty, .int .u64 (f.num : Int), u] 118)).cell? ⟨w.heap.size, 2, none⟩ = some (.int .u64 (f.num : Int)) := cell_of_row _ _ _ _ _ _ R0
 have c3 : (w.alloc (.cells #[.int .i64 f.no, .int .i64 f.ty, .int .u64 (f.num : Int), u] 118)).cell? ⟨w.heap.size, 3, none⟩ = some (u) := cell_of_row _ _ _ _ _ _ R0
 go_enter Tryz.func82, Tryz.ntmps82
 have cP := r_put [] (fhd f) hhl (w.alloc (.cells #[.int .i64 f.no, .int .i64 f.ty, .int .u64 (f.num : Int), u] 118)) _ (bys_nil _)
 rw [List.nil_append] at cP
 have hm1 : 8 * f.no < 18446744073709551616 := by omega
 have hm2 : 0 ≤ 8 * f.no := by omega
 have l0 := lt_of_row R0
 generalize hE : en (fhd f) = E at *
 go_wp2_with (fail)
 generalize (w.alloc (.cells #[.int .i64 f.no, .int .i64 f.ty, .int .u64 (f.num : Int), u] 118)) = w0 at *
 refine cP.mono ?_
 rintro e_ w1 ⟨r, rfl, hr, hb⟩
 have s0 := hw.size
 have sw := hb.size
 replace hw := hw.trans (hb.mono hw.size)
 replace c1 := (hb.cell (p := ⟨w.heap.size, 1, none⟩) l0).trans c1
 replace c2 := (hb.cell (p := ⟨w.heap.size, 2, none⟩) l0).trans c2
 replace c3 := (hb.cell (p := ⟨w.heap.size, 3, none⟩) l0).trans c3
 clear hb cP R0 c0
 have hrB := hr.bysB (by omega)
 obtain ⟨ro, rc, hre⟩ := slen_own hr
 unfold known at hk
 rcases hk with t | t | t | t
 ·rw [t] at c1
  rw [if_pos t] at hvl
  have cX := r_put E f.num hnum w1 r hrB
  have hfin : Hid (fby f = E ++ en f.num) := hide (by rw [hfb, hvl])
  subst hre
  clear hvl hfb t hr hrB
  generalize hZ : en f.num = Z at *
  go_wp2_with (fail)
  refine cX.mono ?_
  rintro e_ w2 ⟨x, rfl, hx, hb⟩
  replace hw := hw.trans (hb.mono hw.size)
  clear hb cX
  go_wp2_with (fail)
  go_ret
  exact ⟨x, rfl, by rw [hfin.out]; exact own_down hx (by omega), hw⟩
 ·rw [t] at c1
  rw [if_neg (by omega), if_pos t] at hvl
  have cX := r_low f.num 8 hnum (by omega) w1
  have hfin : Hid (fby f = E ++ fx 8 f.num) := hide (by rw [hfb, hvl])
  have hxl : (fx 8 f.num).length ≤ 8 := by rw [fx_len]; omega
  subst hre
  clear hvl hfb t hrB
  generalize hZ : fx 8 f.num = Z at *
  go_wp2_with (fail)
  refine cX.mono ?_
  rintro e_ w2 ⟨x, rfl, hx, hb⟩
  have s2 := hb.size
  replace hw := hw.trans (hb.mono hw.size)
  replace hr := hr.keep hb
  have hxB := hx.bysB (by omega)
  clear hb cX
  go_wp2_with (at_builtin; suffices h9 : True ∧ _ from h9.2)
  refine ⟨trivial, ?_⟩
  refine wpList_append_B rfl (.tmp 23) (.tmp 26) rfl w0.heap.size _ E rfl hr _ Z rfl hxB (by omega) (by omega) ?_
  intro v3 w3 hO3 hgr
  have hw3 := hw.grown hgr (by omega) (fun k e => by have := own_low hr k e; omega)
  clear hgr
  go_wp2_with (fail)
  go_ret
  exact ⟨v3, rfl, by rw [hfin.out]; exact own_down hO3 (by omega), hw3⟩
 ·rw [t] at c1
  rw [if_neg (by omega), if_neg (by omega), if_neg (by omega)] at hvl
  have cX := r_put E f.dat.length (by omega) w1 r hrB
  have hfin : Hid (fby f = E ++ en f.dat.length ++ f.dat) := hide (by rw [hfb, hvl, itm, List.append_assoc])
  have hten3 := en_ten (n := f.dat.length) (by omega)
  subst hre
  clear hvl hfb t hrB hr
  subst hue
  generalize hZ : en f.dat.length = Z at *
  go_wp2_with (fail)
  refine cX.mono ?_
  rintro e_ w2 ⟨x, rfl, hx, hb⟩
  have s2 := hb.size
  replace hw := hw.trans (hb.mono hw.size)
  replace c3 := (hb.cell (p := ⟨w.heap.size, 3, none⟩) (show w.heap.size < w1.heap.size by omega)).trans c3
  have hE2 := hu.keep hw
  obtain ⟨xo, xc, hxe⟩ := slen_own hx
  have hll : (E ++ Z).length = E.length + Z.length := List.length_append
  clear hb cX
  generalize hEZ : E ++ Z = EZ at *
  subst hxe
  replace hll := hide hll
  go_wp2_with (at_builtin; suffices h9 : True ∧ _ from h9.2)
  refine ⟨trivial, ?_⟩
  refine wpList_append_B rfl (.tmp 41) (.tmp 43) rfl w1.heap.size _ EZ rfl hx _ f.dat rfl hE2 (by have := hll.out; omega) s2 ?_
  intro v3 w3 hO3 hgr
  have hw3 := hw.grown hgr (by omega) (fun k e => by have := own_low hx k e; omega)
  clear hgr
  go_wp2_with (fail)
  go_ret
  exact ⟨v3, rfl, by rw [hfin.out]; exact own_down hO3 (by omega), hw3⟩
 ·rw [t] at c1
  rw [if_neg (by omega), if_neg (by omega), if_pos t] at hvl
  have cX := r_low f.num 4 hnum (by omega) w1
  have hfin : Hid (fby f = E ++ fx 4 f.num) := hide (by rw [hfb, hvl])
  have hxl : (fx 4 f.num).length ≤ 8 := by rw [fx_len]; omega
  subst hre
  clear hvl hfb t hrB
  generalize hZ : fx 4 f.num = Z at *
  go_wp2_with (fail)
  refine cX.mono ?_
  rintro e_ w2 ⟨x, rfl, hx, hb⟩
  have s2 := hb.size
  replace hw := hw.trans (hb.mono hw.size)
  replace hr := hr.keep hb
  have hxB := hx.bysB (by omega)
  clear hb cX
  go_wp2_with (at_builtin; suffices h9 : True ∧ _ from h9.2)
  refine ⟨trivial, ?_⟩
  refine wpList_append_B rfl (.tmp 30) (.tmp 33) rfl w0.heap.size _ E rfl hr _ Z rfl hxB (by omega) (by omega) ?_
  intro v3 w3 hO3 hgr
  have hw3 := hw.grown hgr (by omega) (fun k e => by have := own_low hr k e; omega)
  clear hgr
  go_wp2_with (fail)
  go_ret
  exact ⟨v3, rfl, by rw [hfin.out]; exact own_down hO3 (by omega), hw3⟩
end Go.Proofs.YtmmlkfkpblokiaaGreatDoor

