import Derived.Test.YtjoohgkgkabbpaaGreatDoorXQc0
import Derived.Test.YtjoohgkgkabbpaaGreatDoorXQa8
import Derived.OwnWalk
import Derived.Deep.Cut
import Derived.Deep.RegionHeld3
namespace Go.Proofs.YtjoohgkgkabbpaaGreatDoor
set_option maxRecDepth 100000
open Go Go.RowKit Go.Sort
attribute [local go_sem] setCell_drewN alloc_drewN
set_option maxRecDepth 100000 in
set_option maxHeartbeats 8000000 in
theorem a_plain3 (k : FuncId) (hk : k = 141 ∨ k = 143 ∨ k = 145) (n : Nat) (no ty : Int) (da : Option Addr) (dl dc : Nat) (at_ E : Int) (g2 gs : Nat) (w : World) (h2 : Bx w g2 #[.func (.func k) #[] #[ptr gs]])
 (hF : ∀ V, Below w.heap.size w V → Calls Tryz.prog k #[.agg (vrw n (.slice da dl dc) (.slice none 0 0)), ptr gs] V fun e w' => e = .returned (.int .i64 E) ∧ Below V.heap.size V w') :
 Calls Tryz.prog 159 #[.agg #[.int .i64 no, .int .i64 ty, .int .u64 (n : Int), .slice da dl dc], .int .i64 at_, ptr g2] w fun e w' => Gup w.heap.size (rdE at_ E) e w' (fun v => v = .agg (vrw n (.slice da dl dc) (.slice none 0 0))) ∧ Below w.heap.size w w' := by
 obtain ⟨T2, h2⟩ := h2
 have l2 := lt_of_row h2
 have r1 := hp3_1 w (.cells #[.int .i64 no, .int .i64 ty, .int .u64 (n : Int), .slice da dl dc] 72) (.cells #[.int .u64 0, .slice none 0 0, .slice none 0 0] 78) (.cells #[.int .u64 0, .slice none 0 0, .slice none 0 0] 78)
 have r2 := hp3_2 w (.cells #[.int .i64 no, .int .i64 ty, .int .u64 (n : Int), .slice da dl dc] 72) (.cells #[.int .u64 0, .slice none 0 0, .slice none 0 0] 78) (.cells #[.int .u64 0, .slice none 0 0, .slice none 0 0] 78)
 have hb0 : Below w.heap.size w (((w.alloc (.cells #[.int .i64 no, .int .i64 ty, .int .u64 (n : Int), .slice da dl dc] 72)).alloc (.cells #[.int .u64 0, .slice none 0 0, .slice none 0 0] 78)).alloc (.cells #[.int .u64 0, .slice none 0 0, .slice none 0 0] 78)) := (((Below.refl _ _).alloc (Nat.le_refl _) _).alloc (by simp) _).alloc (by simp; omega) _
 have hb := below_setRow (g := w.heap.size + 1 + 1) hb0 (by omega) #[.int .u64 (n : Int), .slice da dl dc, .slice none 0 0]
 have RV := setRow_heap _ (w.heap.size + 1 + 1) _ #[.int .u64 (n : Int), .slice da dl dc, .slice none 0 0] _ _ r2
 have R1 := (setRow_other (((w.alloc (.cells #[.int .i64 no, .int .i64 ty, .int .u64 (n : Int), .slice da dl dc] 72)).alloc (.cells #[.int .u64 0, .slice none 0 0, .slice none 0 0] 78)).alloc (.cells #[.int .u64 0, .slice none 0 0, .slice none 0 0] 78)) (w.heap.size + 1 + 1) (w.heap.size + 1) #[.int .u64 (n : Int), .slice da dl dc, .slice none 0 0] (by omega)).trans r1
 have a1 : ¬ w.heap.size = g2 := by omega
 have a2 : ¬ g2 = w.heap.size := by omega
 have a3 : ¬ w.heap.size + 1 = g2 := by omega
 have a4 : ¬ g2 = w.heap.size + 1 := by omega
 have a5 : ¬ w.heap.size + 1 + 1 = g2 := by omega
 have a6 : ¬ g2 = w.heap.size + 1 + 1 := by omega
 have hone : (#[.int .u64 (n : Int), .slice da dl dc, .slice none 0 0] : Array Value).all (·.oneCell') = true := by simp [Value.oneCell']
 have c2 : ((((w.alloc (.cells #[.int .i64 no, .int .i64 ty, .int .u64 (n : Int), .slice da dl dc] 72)).alloc (.cells #[.int .u64 0, .slice none 0 0, .slice none 0 0] 78)).alloc (.cells #[.int .u64 0, .slice none 0 0, .slice none 0 0] 78)).setRow (w.heap.size + 1 + 1) #[.int .u64 (n : Int), .slice da dl dc, .slice none 0 0]).cell? ⟨g2, 0, none⟩ = some (.func (.func k) #[] #[ptr gs]) := (hb.cell (p := ⟨g2, 0, none⟩) l2).trans (by rw [cell_of_row _ _ _ _ _ _ h2]; rfl)
 have cF := hF _ hb
 have cE := a_giveUp 0 at_ E
 obtain ⟨R, hR⟩ : ∃ R, rdE at_ E = R := ⟨_, rfl⟩
 rw [hR]
 unfold vrw at cF ⊢
 unfold ptr at *
 replace hb := hide hb
 replace RV := hide RV
 replace R1 := hide R1
 replace cF := hide cF
 replace c2 := hide c2
 clear hF h2 hb0 r1
 go_enter Tryz.func159, Tryz.ntmps159
 go_wp2_with (first | (refine wpList_store_row rfl 78 _ _ rfl (w.heap.size + 1 + 1) #[.int .u64 (n : Int), .slice da dl dc, .slice none 0 0] rfl rfl 78 _ r2 infoV rfl hone ?_; refine wpList_stay ?_) | fail)
 unfold WpStay
 clear r2
 generalize (((w.alloc (.cells #[.int .i64 no, .int .i64 ty, .int .u64 (n : Int), .slice da dl dc] 72)).alloc (.cells #[.int .u64 0, .slice none 0 0, .slice none 0 0] 78)).alloc (.cells #[.int .u64 0, .slice none 0 0, .slice none 0 0] 78)).setRow (w.heap.size + 1 + 1) #[.int .u64 (n : Int), .slice da dl dc, .slice none 0 0] = W4 at *
 have RW := RV.out
 have c2' := c2.out
 clear RV c2
 rcases hk with rfl | rfl | rfl
 all_goals
  go_wp2_with (first | (refine wpList_load_want rfl 78 _ rfl (w.heap.size + 1 + 1) rfl 78 #[.int .u64 (n : Int), .slice da dl dc, .slice none 0 0] (0, 0) _ RW Tryz.underlying78 rfl infoV ?_) | fail)
  refine cF.out.mono ?_
  rintro e_ w1 ⟨rfl, hb1⟩
  have R11 := keep hb1 R1.out
  have RW1 := keep hb1 RW
  have hw := Below.after hb.out hb1
  clear cF hb hb1 R1 RW c2'
  rcases hE : (E == 0)
  ·have hE2 : ¬ E = 0 := by simpa using hE
   have eR : R = some ⟨0, at_, E⟩ := by rw [← hR, rdE, if_neg hE2]
   replace eR := hide eR
   clear hR
   go_wp2_with (fail)
   refine (cE _).mono ?_
   rintro e_ w2 ⟨hg, hb2⟩
   obtain ⟨g, rfl, hgl, hgr⟩ := hg
   have szw := hw.size
   replace hw := Below.after hw hb2
   go_wp2
   rw [eR.out]
   exact ⟨rfl, ⟨g, rfl, Nat.le_trans szw hgl, hgr⟩, hw⟩
  ·obtain rfl : E = 0 := by simpa using hE
   have eR : R = none := by rw [← hR, rdE, if_pos rfl]
   replace eR := hide eR
   clear hR cE
   have RF := setRow_heap _ (w.heap.size + 1) _ #[.int .u64 (n : Int), .slice da dl dc, .slice none 0 0] _ _ R11
   have hwF := below_setRow (g := w.heap.size + 1) hw (by omega) #[.int .u64 (n : Int), .slice da dl dc, .slice none 0 0]
   replace RF := hide RF
   replace hwF := hide hwF
   go_wp2_with (first | (refine wpList_load_want rfl 78 _ rfl (w.heap.size + 1 + 1) rfl 78 #[.int .u64 (n : Int), .slice da dl dc, .slice none 0 0] (0, 0) _ RW1 Tryz.underlying78 rfl infoV ?_) | (refine wpList_store_row rfl 78 _ _ rfl (w.heap.size + 1) #[.int .u64 (n : Int), .slice da dl dc, .slice none 0 0] rfl rfl 78 _ R11 infoV rfl hone ?_) | fail)
   refine bodyPost_ret (v := .agg #[.int .u64 (n : Int), .slice da dl dc, .slice none 0 0]) (results_cell_row Tryz.results159 _ _ (w.heap.size + 1) _ _ _ _ rfl RF.out Tryz.underlying78 rfl infoV) rfl ⟨?_, hwF.out⟩
   rw [eR.out]
   exact ⟨_, rfl, rfl⟩
theorem ent_plain3 (args : Array Value) (W : World) : (callFunc 159 args).run Tryz.prog W = .ok (.enter 159 args) W := by kernel_rfl
theorem wpList_call_up {P : Program} {ops : Array Oper} {rest : List Oper} {o : Oper} {a : Act} {w : World} {Q : Exit → Act → World → Prop} {f : FuncId} {args : Array Value} (base : Nat) (F : Option Flt3) (R : Value → Prop) (B : World → Prop) (hgd : o.guard = none) (hx : (execOp a.eval o).run P w = .ok (.enter f args) w)
 (c : Calls P f args w fun e w' => Gup base F e w' R ∧ B w') (h : F = none → ∀ v w', R v → B w' → wpList P ops Q rest (a.put o.dst v) w')
 (hp : ∀ x, F = some x → ∀ g w', base ≤ g → w'.heap[g]? = some (.cells (frw x) 35 (0, 0)) → B w' → Q (.panic [{ v := .iface 87 (.pointer (some ⟨g, 0, none⟩)), recovered := false }]) a w') : wpList P ops Q (o :: rest) a w :=
 wpList_plain hgd fun _ hK => wp_call_up hx c (fun hF v w' hR hB => hK _ _ (h hF v w' hR hB)) hp
theorem a_slotRead {W : World} {S : Nat → Prop} {t : Slt} {u : Value} {row : Array Value} (h : SlC W S t u row) (hf : Fla t) : ∃ wt k1 k2 k3 a1 a2 a3, row = rdv t.no wt k1 k2 k3 a1 a2 a3 ∧ wt = wtK t ∧ (∀ args W, (callFunc k3 args).run Tryz.prog W = .ok (.enter k3 args) W) ∧
 ∀ (f : Fd) (da : Option Addr) (dl dc : Nat) (at_ : Int) (w : World), dl = f.dat.length → dl < 9223372036854775808 → Below W.heap.size W w → Calls Tryz.prog k3 (#[.agg #[.int .i64 f.no, .int .i64 f.ty, .int .u64 (f.num : Int), .slice da dl dc], .int .i64 at_] ++ a3) w fun e w' => Gup w.heap.size (rdE at_ (ftF t f)) e w' (fun v => v = .agg (vrw f.num (.slice da dl dc) (.slice none 0 0))) ∧ Below w.heap.size w w' := by
 have num : ∀ (wt l m : Int), PlC W S t.no wt 141 #[.int .i64 wt, .int .u64 l, .int .u64 m] row → wtK t = wt → (∀ f : Fd, ftF t f = wth (f.num : Int) l m) → ∃ wt k1 k2 k3 a1 a2 a3, row = rdv t.no wt k1 k2 k3 a1 a2 a3 ∧ wt = wtK t ∧ (∀ args W, (callFunc k3 args).run Tryz.prog W = .ok (.enter k3 args) W) ∧
  ∀ (f : Fd) (da : Option Addr) (dl dc : Nat) (at_ : Int) (w : World), dl = f.dat.length → dl < 9223372036854775808 → Below W.heap.size W w → Calls Tryz.prog k3 (#[.agg #[.int .i64 f.no, .int .i64 f.ty, .int .u64 (f.num : Int), .slice da dl dc], .int .i64 at_] ++ a3) w fun e w' => Gup w.heap.size (rdE at_ (ftF t f)) e w' (fun v => v = .agg (vrw f.num (.slice da dl dc) (.slice none 0 0))) ∧ Below w.heap.size w w' := by
  intro wt l m ⟨g0, g1, g2, g4, gs, e, h0, h1, h2, h4, h5⟩ hwt hE
  refine ⟨wt, _, _, _, _, _, _, e, hwt.symm, ent_plain3, fun f da dl dc at_ w hdl hx hb => ?_⟩
  rw [hE f]
  exact a_plain3 _ (.inl rfl) f.num f.no f.ty da dl dc at_ _ g2 gs w (h2.2.keep hb) (fun V hV => a_fitNum f.num da dl dc none 0 0 wt l m gs V (h5.2.keep (Below.after hb hV)))
 rcases h with ⟨hk, h⟩ | ⟨hk, h⟩ | ⟨hk, h⟩ | ⟨hk, h⟩ | ⟨hk, h⟩ | ⟨hk, h⟩ | ⟨hk, h⟩ | ⟨hk, h⟩
 ·exact num 0 _ _ h (by unfold wtK; rw [if_neg (by omega), if_neg (by omega), if_neg (by omega)]) (fun f => by unfold ftF; rw [if_neg (by omega), if_neg (by omega)])
 ·exact num 5 _ _ h (by unfold wtK; rw [if_pos hk]) (fun f => by unfold ftF; rw [if_neg (by omega), if_neg (by omega)])
 ·exact num 1 _ _ h (by unfold wtK; rw [if_neg (by omega), if_pos hk]) (fun f => by unfold ftF; rw [if_neg (by omega), if_neg (by omega)])
 ·exact num 0 _ _ h (by unfold wtK; rw [if_neg (by omega), if_neg (by omega), if_neg (by omega)]) (fun f => by unfold ftF; rw [if_neg (by omega), if_pos hk])
 ·have hk5 : t.kind = 5 := by rcases hk with q | q; exact q; rcases hf with q2 | q2 | q2 | q2 | q2 <;> omega
  obtain ⟨g0, g1, g2, g4, gs, e, h0, h1, h2, h4, h5⟩ := h
  refine ⟨2, _, _, _, _, _, _, e, by unfold wtK; rw [if_neg (by omega), if_neg (by omega), if_pos hk5], ent_plain3, fun f da dl dc at_ w hdl hx hb => ?_⟩
  have he : ftF t f = wth (dl : Int) (t.least : Int) (t.most : Int) := by unfold ftF; rw [if_pos hk5, hdl]
  rw [he]
  rw [show (t.kind == 6) = false by rw [hk5]; rfl] at h5
  exact a_plain3 _ (.inr (.inr rfl)) f.num f.no f.ty da dl dc at_ _ g2 gs w (h2.2.keep hb) (fun V hV => a_fitOct f.num da dl dc none 0 0 _ _ hx gs V (h5.2.keep (Below.after hb hV)))
 ·exfalso; rcases hf with q2 | q2 | q2 | q2 | q2 <;> omega
 ·exfalso; rcases hf with q2 | q2 | q2 | q2 | q2 <;> omega
 ·exfalso; rcases hf with q2 | q2 | q2 | q2 | q2 <;> omega
set_option maxRecDepth 100000 in
set_option maxHeartbeats 8000000 in
theorem a_slotDecode (no wt : Int) (k1 k2 k3 : FuncId) (a1 a2 a3 : Array Value) (fno fty : Int) (fnum : Nat) (da : Option Addr) (dl dc : Nat) (at_ : Int) (F : Option Flt3) (w : World)
 (hent : ∀ args W, (callFunc k3 args).run Tryz.prog W = .ok (.enter k3 args) W)
 (hC : ∀ V, Below w.heap.size w V → Calls Tryz.prog k3 (#[.agg #[.int .i64 fno, .int .i64 fty, .int .u64 (fnum : Int), .slice da dl dc], .int .i64 at_] ++ a3) V fun e w' => Gup V.heap.size F e w' (fun v => v = .agg (vrw fnum (.slice da dl dc) (.slice none 0 0))) ∧ Below V.heap.size V w') :
 Calls Tryz.prog 87 #[.agg #[.int .i64 no, .int .i64 wt, .func (.func k1) #[] a1, .func (.func k2) #[] a2, .func (.func k3) #[] a3], .agg #[.int .i64 fno, .int .i64 fty, .int .u64 (fnum : Int), .slice da dl dc], .int .i64 at_] w fun e w' => Gup w.heap.size (if fno ≠ no then some ⟨0, at_, 81⟩ else if fty ≠ wt then some ⟨0, at_, 82⟩ else F) e w' (fun v => v = .agg (vrw fnum (.slice da dl dc) (.slice none 0 0))) ∧ Below w.heap.size w w' := by
 have r0 := hp3_0 w (.cells #[.int .i64 no, .int .i64 wt, .func (.func k1) #[] a1, .func (.func k2) #[] a2, .func (.func k3) #[] a3] 166) (.cells #[.int .i64 fno, .int .i64 fty, .int .u64 (fnum : Int), .slice da dl dc] 72) (.cells #[.int .u64 0, .slice none 0 0, .slice none 0 0] 78)
 have r1 := hp3_1 w (.cells #[.int .i64 no, .int .i64 wt, .func (.func k1) #[] a1, .func (.func k2) #[] a2, .func (.func k3) #[] a3] 166) (.cells #[.int .i64 fno, .int .i64 fty, .int .u64 (fnum : Int), .slice da dl dc] 72) (.cells #[.int .u64 0, .slice none 0 0, .slice none 0 0] 78)
 have r2 := hp3_2 w (.cells #[.int .i64 no, .int .i64 wt, .func (.func k1) #[] a1, .func (.func k2) #[] a2, .func (.func k3) #[] a3] 166) (.cells #[.int .i64 fno, .int .i64 fty, .int .u64 (fnum : Int), .slice da dl dc] 72) (.cells #[.int .u64 0, .slice none 0 0, .slice none 0 0] 78)
 have hb : Below w.heap.size w (((w.alloc (.cells #[.int .i64 no, .int .i64 wt, .func (.func k1) #[] a1, .func (.func k2) #[] a2, .func (.func k3) #[] a3] 166)).alloc (.cells #[.int .i64 fno, .int .i64 fty, .int .u64 (fnum : Int), .slice da dl dc] 72)).alloc (.cells #[.int .u64 0, .slice none 0 0, .slice none 0 0] 78)) := (((Below.refl _ _).alloc (Nat.le_refl _) _).alloc (by simp) _).alloc (by simp; omega) _
 obtain ⟨R, hR⟩ : ∃ R, (if fno ≠ no then some ⟨0, at_, 81⟩ else if fty ≠ wt then some ⟨0, at_, 82⟩ else F) = R := ⟨_, rfl⟩
 rw [hR]
 have cC := hC _ hb
 unfold vrw at cC ⊢
 replace hb := hide hb
 replace cC := hide cC
 clear hC
 have hone : (#[.int .u64 (fnum : Int), .slice da dl dc, .slice none 0 0] : Array Value).all (·.oneCell') = true := by simp [Value.oneCell']
 go_enter Tryz.func87, Tryz.ntmps87
 go_upto_region 1 with (fail)
 generalize (((w.alloc (.cells #[.int .i64 no, .int .i64 wt, .func (.func k1) #[] a1, .func (.func k2) #[] a2, .func (.func k3) #[] a3] 166)).alloc (.cells #[.int .i64 fno, .int .i64 fty, .int .u64 (fnum : Int), .slice da dl dc] 72)).alloc (.cells #[.int .u64 0, .slice none 0 0, .slice none 0 0] 78)) = W3 at *
 have s0 := cell_of_row _ _ 0 _ _ _ r0
 have s1 := cell_of_row _ _ 1 _ _ _ r0
 have s4 := cell_of_row _ _ 4 _ _ _ r0
 have f0 := cell_of_row _ _ 0 _ _ _ r1
 have f1 := cell_of_row _ _ 1 _ _ _ r1
 by_cases hno : fno = no
 ·subst hno
  by_cases hty : fty = wt
  ·subst hty
   have eR : F = R := by rw [← hR, if_neg (by simp), if_neg (by simp)]
   replace eR := hide eR
   clear hR
   replace r2 := hide r2
   go_upto_region 5 with (fail)
   clear s0 s1 f0 f1
   repeat ((fail_if_success (refine wpList_load_want rfl 72 _ rfl (w.heap.size + 1) rfl 72 #[.int .i64 fno, .int .i64 fty, .int .u64 (fnum : Int), .slice da dl dc] (0, 0) _ r1 Tryz.underlying72 rfl infoFi ?_)); first | go_skip | go_step)
   refine wpList_load_want rfl 72 _ rfl (w.heap.size + 1) rfl 72 #[.int .i64 fno, .int .i64 fty, .int .u64 (fnum : Int), .slice da dl dc] (0, 0) _ r1 Tryz.underlying72 rfl infoFi ?_
   try simp only [Act.put, List.setIfInBounds_toArray, List.set_cons_succ, List.set_cons_zero]
   repeat ((fail_if_success (refine wpList_call_up W3.heap.size F (fun v => v = .agg #[.int .u64 (fnum : Int), .slice da dl dc, .slice none 0 0]) (fun w' => Below W3.heap.size W3 w') rfl (run_call_val (.tmp 22) #[.tmp 23, .tmp 24] #[72, 3] rfl rfl _ (by simp only [List.map_toArray, List.map_cons, List.map_nil]; rfl) hent) cC.out ?_ ?_)); first | go_skip | go_step)
   refine wpList_call_up W3.heap.size F (fun v => v = .agg #[.int .u64 (fnum : Int), .slice da dl dc, .slice none 0 0]) (fun w' => Below W3.heap.size W3 w') rfl (run_call_val (.tmp 22) #[.tmp 23, .tmp 24] #[72, 3] rfl rfl _ (by simp only [List.map_toArray, List.map_cons, List.map_nil]; rfl) hent) cC.out ?_ ?_
   ·intro hF v_ w4 hv hb4
    subst hv
    subst hF
    have R4 := keep hb4 r2.out
    have hw4 := Below.after hb.out hb4
    have RF := hide (setRow_heap _ (w.heap.size + 1 + 1) _ #[.int .u64 (fnum : Int), .slice da dl dc, .slice none 0 0] _ _ R4)
    have hwF := hide (below_setRow (g := w.heap.size + 1 + 1) hw4 (by omega) #[.int .u64 (fnum : Int), .slice da dl dc, .slice none 0 0])
    clear r1 r0 r2 hb cC hb4 hw4 s4
    try simp only [Act.put, List.setIfInBounds_toArray, List.set_cons_succ, List.set_cons_zero]
    go_wp2_with (first | (refine wpList_store_row rfl 78 _ _ rfl (w.heap.size + 1 + 1) #[.int .u64 (fnum : Int), .slice da dl dc, .slice none 0 0] rfl rfl 78 _ R4 infoV rfl hone ?_) | fail)
    refine bodyPost_ret (v := .agg #[.int .u64 (fnum : Int), .slice da dl dc, .slice none 0 0]) (results_cell_row Tryz.results87 _ _ (w.heap.size + 1 + 1) _ _ _ _ rfl RF.out Tryz.underlying78 rfl infoV) rfl ⟨?_, hwF.out⟩
    rw [← eR.out]
    exact ⟨_, rfl, rfl⟩
   ·intro x hF g w4 h1 h2 hb4
    subst hF
    have szw := hb.out.size
    have hw4 := Below.after hb.out hb4
    go_wp2_with (fail)
    rw [← eR.out]
    exact ⟨rfl, ⟨g, rfl, by omega, h2⟩, hw4⟩
  ·have eR : R = some ⟨0, at_, 82⟩ := by rw [← hR, if_neg (by simp), if_pos hty]
   have hd : (fty == wt) = false := by simpa using hty
   replace eR := hide eR
   clear hR cC r0 r1 r2
   go_wp2_with (fail)
   refine (a_giveUp 0 at_ 82 _).mono ?_
   rintro e_ w2 ⟨hg, hb2⟩
   obtain ⟨g, rfl, hgl, hgr⟩ := hg
   have szw := hb.out.size
   have hw := Below.after hb.out hb2
   clear hb
   go_wp2
   rw [eR.out]
   exact ⟨rfl, ⟨g, rfl, Nat.le_trans szw hgl, hgr⟩, hw⟩
 ·have eR : R = some ⟨0, at_, 81⟩ := by rw [← hR, if_pos hno]
  have hd : (fno == no) = false := by simpa using hno
  replace eR := hide eR
  clear hR cC r0 r1 r2
  go_wp2_with (fail)
  refine (a_giveUp 0 at_ 81 _).mono ?_
  rintro e_ w2 ⟨hg, hb2⟩
  obtain ⟨g, rfl, hgl, hgr⟩ := hg
  have szw := hb.out.size
  have hw := Below.after hb.out hb2
  clear hb
  go_wp2
  rw [eR.out]
  exact ⟨rfl, ⟨g, rfl, Nat.le_trans szw hgl, hgr⟩, hw⟩
end Go.Proofs.YtjoohgkgkabbpaaGreatDoor
namespace Go.Proofs.YtjoohgkgkabbpaaGreatDoor
set_option maxRecDepth 100000
open Go Go.RowKit Go.Sort
attribute [local go_sem] setCell_drewN alloc_drewN
section
variable {P : Program} {ops : Array Oper} {Q : Exit → Act → World → Prop} {md : Region.Mode} {S : World → Prop}
end
theorem a_sizeX (n : Nat) (hn : n < 18446744073709551616) (w : World) : Calls Tryz.prog 54 #[.int .u64 (n : Int)] w fun e w' => ∃ u, e = .returned u ∧ u = .int .i64 ((en n).length : Int) ∧ Below w.heap.size w w' := (a_size n hn w).mono fun _ _ h => ⟨_, h.1, rfl, h.2⟩
set_option maxRecDepth 100000 in
set_option maxHeartbeats 8000000 in
theorem a_endOf (f : Fd) (ao : Option Addr) (cap : Nat) (at_ : Int) (hat : 0 ≤ at_ ∧ at_ ≤ 4611686018427387904) (hf : Fok f) (h0 : 0 ≤ f.no) (h1 : f.no ≤ 536870911) (hk : known f.ty) (w : World) : Calls Tryz.prog 88 #[.agg #[.int .i64 f.no, .int .i64 f.ty, .int .u64 (f.num : Int), .slice ao f.dat.length cap], .int .i64 at_] w fun e w' => ∃ u, e = .returned u ∧ u = .int .i64 (at_ + ((fby f).length : Int)) ∧ Below w.heap.size w w' := by
 have ht := known_lt hk
 obtain ⟨N, hN⟩ := Int.eq_ofNat_of_zero_le h0
 obtain ⟨hf1, hf2, _, _⟩ := hf
 have hH : (en (fhd f)).length = (en (8 * N)).length := by
  have e : fhd f = 8 * N + f.ty.toNat := by unfold fhd; rw [hN]; rfl
  rw [e]
  exact en_head N _ (by omega)
 have cH := s_headOf N (by omega)
 have cS := a_size (8 * N) (by omega)
 have cN := a_size f.num hf1
 have cD := a_sizeX f.dat.length (by omega)
 have hten := en_ten (n := 8 * N) (by omega)
 have hten2 := en_ten hf1
 have hten3 := en_ten (n := f.dat.length) (by omega)
 have hl : (fby f).length = (en (8 * N)).length + (fvl f).length := by rw [fby, List.length_append, hH]
 have hvl : fvl f = if f.ty = 0 then en f.num else if f.ty = 1 then fx 8 f.num else if f.ty = 5 then fx 4 f.num else itm f.dat := rfl
 have hL0 : f.ty = 0 → (fby f).length = (en (8 * N)).length + (en f.num).length := fun t => by rw [hl, hvl, if_pos t]
 have hL1 : f.ty = 1 → (fby f).length = (en (8 * N)).length + 8 := fun t => by rw [hl, hvl, if_neg (by omega), if_pos t, fx_len]
 have hL5 : f.ty = 5 → (fby f).length = (en (8 * N)).length + 4 := fun t => by rw [hl, hvl, if_neg (by omega), if_neg (by omega), if_pos t, fx_len]
 have hL2 : f.ty = 2 → (fby f).length = (en (8 * N)).length + (en f.dat.length).length + f.dat.length := fun t => by rw [hl, hvl, if_neg (by omega), if_neg (by omega), if_neg (by omega), itm_len]; omega
 unfold known at hk
 generalize (fby f).length = L at *
 clear hvl hl hH
 generalize hfn : f.no = fno at *
 generalize f.ty = fty at *
 generalize f.num = num at *
 generalize f.dat.length = dl at *
 generalize (en (8 * N)).length = H at *
 generalize (en dl).length = DL at *
 generalize (en num).length = NL at *
 replace hN := hide hN
 clear hfn f
 have R0 := hp1_0 w (.cells #[.int .i64 fno, .int .i64 fty, .int .u64 (num : Int), .slice ao dl cap] 72)
 have hw : Below w.heap.size w (w.alloc (.cells #[.int .i64 fno, .int .i64 fty, .int .u64 (num : Int), .slice ao dl cap] 72)) := (Below.refl _ _).alloc (Nat.le_refl _) _
 go_enter Tryz.func88, Tryz.ntmps88
 go_upto_region 1 with (fail)
 generalize w.alloc (.cells #[.int .i64 fno, .int .i64 fty, .int .u64 (num : Int), .slice ao dl cap] 72) = w1 at *
 have c0 := cell_of_row _ _ 0 _ _ _ R0
 have cH1 := cH w1
 rw [← hN.out] at cH1
 replace cH1 := hide cH1
 clear cH
 go_wp2_with (fail)
 refine cH1.out.mono ?_
 rintro e_ w2 ⟨rfl, hb_⟩
 replace R0 := keep hb_ R0
 replace hw := Below.after hw hb_
 clear hb_ c0 cH1
 have cS2 := hide (cS w2)
 clear cS
 go_wp2_with (fail)
 refine cS2.out.mono ?_
 rintro e_ w3 ⟨rfl, hb_⟩
 replace R0 := keep hb_ R0
 replace hw := Below.after hw hb_
 clear hb_ cS2
 rcases hk with t | t | t | t
 ·have e := hide (hL0 t)
  subst t
  have cN3 := hide (cN w3)
  have c1 := cell_of_row _ _ 1 _ _ _ R0
  have c2 := cell_of_row _ _ 2 _ _ _ R0
  clear hL0 hL1 hL2 hL5 cN cD
  go_wp2_with (fail)
  refine cN3.out.mono ?_
  rintro e_ w4 ⟨rfl, hb_⟩
  replace hw := Below.after hw hb_
  clear hb_ cN3
  go_wp2_with (fail)
  go_ret
  exact ⟨_, rfl, by rw [e.out]; go_num, hw⟩
 ·have e := hide (hL1 t)
  subst t
  have c1 := cell_of_row _ _ 1 _ _ _ R0
  clear hL0 hL1 hL2 hL5 cN cD
  go_wp2_with (fail)
  go_ret
  exact ⟨_, rfl, by rw [e.out]; go_num, hw⟩
 ·have e := hide (hL2 t)
  subst t
  have c1 := cell_of_row _ _ 1 _ _ _ R0
  clear hL0 hL1 hL2 hL5 cN
  go_upto_region 8 with (fail)
  clear c1
  have hbd : Below w3.heap.size w3 w3.drew := below_drN (Below.refl _ _) 1
  replace R0 := keep hbd R0
  replace hw := Below.after hw hbd
  clear hbd
  have q0 : IntKind.wrap .u64 (dl : Int) = (dl : Int) := by show (dl : Int) % 18446744073709551616 = dl; omega
  have q1 : IntKind.wrap .i64 (at_ + (H : Int) + (DL : Int)) = at_ + (H : Int) + (DL : Int) := by rw [IntKind.wrap_i64]; omega
  have q2 : IntKind.wrap .i64 (at_ + (H : Int) + (DL : Int) + (dl : Int)) = at_ + (H : Int) + (DL : Int) + (dl : Int) := by rw [IntKind.wrap_i64]; omega
  refine wp_region_noPanic ?_
  refine wp_region_held (S := fun W => W.heap[w.heap.size]? = some (.cells #[.int .i64 fno, .int .i64 2, .int .u64 (num : Int), .slice ao dl cap] 72 (0, 0))) (by kernel_rfl) ?_
  change wpAnyH _ _ _ _ _ _ _ _ (World.drew _)
  generalize w3.drew = y1 at *
  refine wpAnyH_take (i := 0) (v := ?v1) rfl (by kernel_rfl) (by kernel_rfl) (by kernel_rfl) (fun _ _ _ h => h) (Or.inl ⟨by rfl, ?y1⟩) R0 ?r1
  case y1 =>
   intro w_ hS_
   go_simp
   try with_reducible rfl
  simp only [Act.put, List.getElem_toArray, List.getElem_cons_zero, List.setIfInBounds_toArray, List.set_cons_succ, List.set_cons_zero]
  refine wpAnyH_take (i := 1) (v := ?v2) rfl (by kernel_rfl) (by kernel_rfl) (by kernel_rfl) (fun _ _ _ h => h) (Or.inl ⟨by rfl, ?y2⟩) R0 ?r2
  case y2 =>
   intro w_ hS_
   go_simp
   try with_reducible rfl
  simp only [Act.put, List.getElem_toArray, List.getElem_cons_succ, List.getElem_cons_zero, List.setIfInBounds_toArray, List.set_cons_succ, List.set_cons_zero]
  refine wpAnyH_take (i := 2) (v := .slice ao dl cap) rfl (by kernel_rfl) (by kernel_rfl) (by kernel_rfl) (fun _ _ _ h => h) (Or.inl ⟨by rfl, ?y3⟩) R0 ?r3
  case y3 =>
   intro w_ hS_
   have c_ := cell_of_row _ _ 3 _ _ _ hS_
   go_simp
   try with_reducible rfl
  simp only [Act.put, List.getElem_toArray, List.getElem_cons_succ, List.getElem_cons_zero, List.setIfInBounds_toArray, List.set_cons_succ, List.set_cons_zero]
  refine wpAnyH_take (i := 3) (v := ?v4) rfl (by kernel_rfl) (by kernel_rfl) (by kernel_rfl) (fun _ _ _ h => h) (Or.inl ⟨by rfl, ?y4⟩) R0 ?r4
  case y4 =>
   intro w_ hS_
   go_simp
   try with_reducible rfl
  simp only [Act.put, List.getElem_toArray, List.getElem_cons_succ, List.getElem_cons_zero, List.setIfInBounds_toArray, List.set_cons_succ, List.set_cons_zero]
  refine wpAnyH_take (i := 4) (v := .int .u64 (dl : Int)) rfl (by kernel_rfl) (by kernel_rfl) (by kernel_rfl) (fun _ _ _ h => h) (Or.inl ⟨by rfl, ?y5⟩) R0 ?r5
  case y5 =>
   intro w_ hS_
   go_simp
   try with_reducible rfl
  simp only [Act.put, List.getElem_toArray, List.getElem_cons_succ, List.getElem_cons_zero, List.setIfInBounds_toArray, List.set_cons_succ, List.set_cons_zero]
  refine wpAnyH_take (i := 7) (v := ?v6) rfl (by kernel_rfl) (by kernel_rfl) (by kernel_rfl) (fun _ _ _ h => h) (Or.inl ⟨by rfl, ?y6⟩) R0 ?r6
  case y6 =>
   intro w_ hS_
   go_simp
   try with_reducible rfl
  simp only [Act.put, List.getElem_toArray, List.getElem_cons_succ, List.getElem_cons_zero, List.setIfInBounds_toArray, List.set_cons_succ, List.set_cons_zero]
  refine wpAnyH_take (i := 8) (v := .slice ao dl cap) rfl (by kernel_rfl) (by kernel_rfl) (by kernel_rfl) (fun _ _ _ h => h) (Or.inl ⟨by rfl, ?y7⟩) R0 ?r7
  case y7 =>
   intro w_ hS_
   have c_ := cell_of_row _ _ 3 _ _ _ hS_
   go_simp
   try with_reducible rfl
  simp only [Act.put, List.getElem_toArray, List.getElem_cons_succ, List.getElem_cons_zero, List.setIfInBounds_toArray, List.set_cons_succ, List.set_cons_zero]
  refine wpAnyH_take (i := 9) (v := ?v8) rfl (by kernel_rfl) (by kernel_rfl) (by kernel_rfl) (fun _ _ _ h => h) (Or.inl ⟨by rfl, ?y8⟩) R0 ?r8
  case y8 =>
   intro w_ hS_
   go_simp
   try with_reducible rfl
  simp only [Act.put, List.getElem_toArray, List.getElem_cons_succ, List.getElem_cons_zero, List.setIfInBounds_toArray, List.set_cons_succ, List.set_cons_zero]
  refine wpAnyH_one (k := 5) (fuel := 3) (by kernel_rfl) rfl (by kernel_rfl) (fun K_ hK => ?_)
  refine wp_call_ex (f := 54) (by kernel_rfl) (cD y1) (fun v_ y2 hX_ => ?_)
  obtain ⟨rfl, hb_⟩ := hX_
  replace R0 := keep hb_ R0
  replace hw := Below.after hw hb_
  clear hb_
  refine hK _ _ R0 ?_
  simp only [Act.put, List.getElem_toArray, List.getElem_cons_succ, List.getElem_cons_zero, List.setIfInBounds_toArray, List.set_cons_succ, List.set_cons_zero]
  clear hK
  refine wpAnyH_take (i := 6) (v := .int .i64 (at_ + (H : Int) + (DL : Int))) rfl (by kernel_rfl) (by kernel_rfl) (by kernel_rfl) (fun _ _ _ h => h) (Or.inl ⟨by rfl, ?y9⟩) R0 ?r9
  case y9 =>
   intro w_ hS_
   go_simp
   try with_reducible rfl
  simp only [Act.put, List.getElem_toArray, List.getElem_cons_succ, List.getElem_cons_zero, List.setIfInBounds_toArray, List.set_cons_succ, List.set_cons_zero]
  refine wpAnyH_take (i := 10) (v := .int .i64 (at_ + (H : Int) + (DL : Int) + (dl : Int))) rfl (by kernel_rfl) (by kernel_rfl) (by kernel_rfl) (fun _ _ _ h => h) (Or.inl ⟨by rfl, ?y10⟩) R0 ?r10
  case y10 =>
   intro w_ hS_
   go_simp
   try with_reducible rfl
  simp only [Act.put, List.getElem_toArray, List.getElem_cons_succ, List.getElem_cons_zero, List.setIfInBounds_toArray, List.set_cons_succ, List.set_cons_zero]
  refine wpAnyH_take (i := 11) (v := ?v11) rfl (by kernel_rfl) (by kernel_rfl) (by kernel_rfl) (fun _ _ _ h => h) (Or.inl ⟨by rfl, ?y11⟩) R0 ?r11
  case y11 =>
   intro w_ hS_
   go_simp
   try with_reducible rfl
  simp only [Act.put, List.getElem_toArray, List.getElem_cons_succ, List.getElem_cons_zero, List.setIfInBounds_toArray, List.set_cons_succ, List.set_cons_zero]
  refine wpAnyH_done (by kernel_rfl) ?_ _
  refine NoPanic.normal ?_
  go_wp2_with (fail)
  go_ret
  exact ⟨_, rfl, by rw [e.out]; show Value.int .i64 (at_ + (H : Int) + (DL : Int) + (dl : Int)) = _; congr 1; omega, hw⟩
 ·have e := hide (hL5 t)
  subst t
  have c1 := cell_of_row _ _ 1 _ _ _ R0
  clear hL0 hL1 hL2 hL5 cN cD
  go_wp2_with (fail)
  go_ret
  exact ⟨_, rfl, by rw [e.out]; go_num, hw⟩
end Go.Proofs.YtjoohgkgkabbpaaGreatDoor
namespace Go.Proofs.YtjoohgkgkabbpaaGreatDoor
set_option maxRecDepth 100000
open Go Go.RowKit Go.Sort
/-! What is cut short. -/
end Go.Proofs.YtjoohgkgkabbpaaGreatDoor
namespace Go.Proofs.YtjoohgkgkabbpaaGreatDoor
set_option maxRecDepth 100000
open Go Go.RowKit Go.Sort
/-! Parts of a list of fields. -/
theorem gf_take (fs : List Fd) (k i : Nat) (h : i < k) : gf (fs.take k) i = gf fs i := by
 rw [gf, gf, List.getD_eq_getElem?_getD, List.getD_eq_getElem?_getD, List.getElem?_take_of_lt h]
theorem Fds.take {W : World} {ao : Option Addr} {cap l : Nat} {fs : List Fd} (h : Fds W (.slice ao l cap) fs) (k : Nat) (hk : k ≤ fs.length) : Fds W (.slice ao k cap) (fs.take k) := by
 obtain ⟨ao', cap', e, h1, h2, h3, h4⟩ := h
 cases e
 have hl : (fs.take k).length = k := by rw [List.length_take, Nat.min_eq_left hk]
 refine ⟨ao, cap, by rw [hl], by omega, by omega, h3, fun i hi => ?_⟩
 rw [hl] at hi
 rw [gf_take fs k i hi]
 exact h4 i (by omega)
theorem eer_ok {fs : List Fd} : eer fs = 0 ↔ fs.length ≤ 64 ∧ ech fs 0 = 0 ∧ (ebs fs).length ≤ 4194304 := by
 unfold eer
 by_cases h1 : 64 < fs.length
 ·rw [if_pos h1]
  constructor
  ·intro h; cases h
  ·intro h; omega
 rw [if_neg h1]
 by_cases h2 : ech fs 0 = 0
 ·rw [if_neg (by rw [h2]; simp)]
  by_cases h3 : 4194304 < (ebs fs).length
  ·rw [if_pos h3]
   constructor
   ·intro h; cases h
   ·intro h; omega
  ·rw [if_neg h3]
   exact ⟨fun _ => ⟨by omega, h2, by omega⟩, fun _ => rfl⟩
 ·rw [if_pos h2]
  exact ⟨fun h => absurd h h2, fun h => absurd h.2.1 h2⟩
theorem ebs_split (fs : List Fd) (c : Nat) : ebs fs = ebs (fs.take c) ++ ebs (fs.drop c) := by
 rw [← ebs_app, List.take_append_drop]
end Go.Proofs.YtjoohgkgkabbpaaGreatDoor
namespace Go.Proofs.YtjoohgkgkabbpaaGreatDoor
set_option maxRecDepth 100000
open Go Go.RowKit Go.Sort
attribute [local go_sem] setCell_drewN alloc_drewN
def vrk (fs : List Fd) (us : List Value) : Nat → List Value
 | 0 => []
 | k + 1 => vrk fs us k ++ [.int .u64 ((gf fs k).num : Int), gv us k, .slice none 0 0]
theorem infoVI : ∃ i, Tryz.prog.info? 78 = some i ∧ i.zero = some (.agg #[.int .u64 0, .slice none 0 0, .slice none 0 0]) ∧ i.size = 3 ∧ i.bytes = 56 := ⟨_, rfl, rfl, rfl, rfl⟩
theorem run_bv1 (x y z : Value) (W : World) : (Instr.buildSlice 76 1 #[(0, .agg #[x, y, z])]).run Tryz.prog W = .ok (.slice (some ⟨W.heap.size, 0, none⟩) 1 1) (W.alloc (.cells #[x, y, z] 78)) := by kernel_rfl
theorem op_bv1 {o : Oper} {a : Act} {w : World} (p : Operand) (ho : o.op = .buildSlice 76 1 #[(0, p)]) (x y z : Value) (hp : a.eval p = .agg #[x, y, z]) : (execOp a.eval o).run Tryz.prog w = .ok (.value (.slice (some ⟨w.heap.size, 0, none⟩) 1 1)) (w.alloc (.cells #[x, y, z] 78)) := by
 have hr := run_bv1 x y z w
 unfold execOp
 simp only [ho, Sem.run_bind, Sem.run_pure, List.map_toArray, List.map_cons, List.map_nil, hp, hr, Result.andThen_ok]
theorem ech_all : ∀ (fs : List Fd) (last : Int), 0 ≤ last → ech fs last = 0 → ∀ f ∈ fs, 0 ≤ f.no ∧ f.no ≤ 536870911 ∧ known f.ty ∧ fits f
 | [], _, _, _, f, hf => by simp at hf
 | g :: fs, last, h0, h, f, hf => by
  rw [ech] at h
  split at h
  ·rename_i hne
   exact absurd h hne
  ·rename_i hz
   have hz' : fck g last = 0 := by simpa using hz
   have hg : 0 ≤ g.no ∧ g.no ≤ 536870911 ∧ known g.ty ∧ fits g := by
    unfold fck at hz'
    split at hz'
    ·rename_i h1; exact absurd hz' h1
    ·rename_i h1
     have h1' : hck g last = 0 := by simpa using h1
     split at hz'
     ·rename_i h2
      unfold hck at h1'
      split at h1'
      ·omega
      ·rename_i h3
       split at h1'
       ·rename_i h4
        exact ⟨by omega, by omega, h4, h2⟩
       ·omega
     ·omega
   rcases List.mem_cons.1 hf with rfl | hf
   ·exact hg
   ·exact ech_all fs g.no hg.1 h f hf
theorem whl_pl {d : List B} : ∀ (k p : Nat) (last : Int) (c : Nat), p ≤ d.length → ∀ q e, (whl d k p last c).2 = some (q, e) → q ≤ d.length
 | 0, p, last, c, hp, q, e, h => by simp [whl] at h
 | k + 1, p, last, c, hp, q, e, h => by
  by_cases hlt : p < d.length
  ·rw [whl, if_pos hlt] at h
   cases hr : rh (d.drop p) last c with
   | er e' =>
    rw [hr] at h
    simp at h
    omega
   | ok no ty n =>
    rw [hr] at h
    simp only at h
    have h1 := rh_ok hr
    rw [List.length_drop] at h1
    cases hv : rv (d.drop (p + n)) ty with
    | er e' =>
     rw [hv] at h
     simp at h
     omega
    | ok num dat m =>
     rw [hv] at h
     have h2 := rv_ok hv
     rw [List.length_drop] at h2
     exact whl_pl k (p + n + m) no (c + 1) (by omega) q e h
  ·rw [whl, if_neg hlt] at h
   simp at h
theorem dpl_bd (d : List B) : 0 ≤ dpl (dwh d) ∧ dpl (dwh d) ≤ 4194304 := by
 unfold dpl dwh
 by_cases h : 4194304 < d.length
 ·rw [if_pos h]
  exact ⟨by decide, by decide⟩
 ·rw [if_neg h]
  have := whl_pl (d := d) d.length 0 0 0 (by omega)
  generalize (whl d d.length 0 0 0).2 = x at *
  cases x with
  | none => exact ⟨by decide, by decide⟩
  | some y =>
   obtain ⟨q, e⟩ := y
   have := this q e rfl
   simp only
   omega
theorem gf_mem {fs : List Fd} {i : Nat} (h : i < fs.length) : gf fs i ∈ fs := by
 rw [gf, List.getD_eq_getElem?_getD, List.getElem?_eq_getElem h]
 exact List.getElem_mem h
theorem ebs_take (fs : List Fd) (k : Nat) (h : k < fs.length) : (ebs (fs.take (k + 1))).length = (ebs (fs.take k)).length + (fby (gf fs k)).length := by
 rw [List.take_add_one, ebs_app, List.length_append, List.getElem?_eq_getElem h]
 simp [ebs_one, gf, List.getD_eq_getElem?_getD, List.getElem?_eq_getElem h]
theorem Fts.at {W : World} {b : Nat} {v : Value} {us : List Value} {fs : List Fd} (h : Fts W b v us fs) {i : Nat} (hi : i < fs.length) : ∃ g cap, v = .slice (some ⟨g, 0, none⟩) fs.length cap ∧ b ≤ g ∧ g < W.heap.size ∧ W.rangeAt g (i * 4) (frow (gf fs i) (gv us i)) := by
 obtain ⟨h1, h2, h3, _⟩ := h
 have h1' := h1
 obtain ⟨_, ⟨rfl, h0⟩ | ⟨g, cap, cur, rfl, hb, hg, hn, hm, hs, ht⟩⟩ := h1'
 ·omega
 ·refine ⟨g, cap, rfl, hb, lt_of_row hg, fun j x hx => ?_⟩
  have hj : j < 4 := by have := (List.getElem?_eq_some_iff.1 hx).1; exact this
  have := h1.cells (g := g) rfl (i * 4 + j) x (by rw [frs_at fs us i j h2 hi hj]; exact hx)
  rw [addr_add, Nat.zero_add] at this
  exact this
theorem own_move_row {W V : World} {b : Nat} {e : TypeId} {sz : Nat} {v : Value} {n : Nat} {xs : List Value} (h : W.ownsRow b e sz v n xs) (hm : ∀ g o, b ≤ g → W.heap[g]? = some o → V.heap[g]? = some o) : V.ownsRow b e sz v n xs := by
 obtain ⟨q1, q2 | ⟨g, cap, cur, q2, hb, q3, q4⟩⟩ := h
 ·exact ⟨q1, .inl q2⟩
 ·exact ⟨q1, .inr ⟨g, cap, cur, q2, hb, hm _ _ hb q3, q4⟩⟩
theorem own_down_row {W : World} {b c : Nat} {e : TypeId} {sz : Nat} {v : Value} {n : Nat} {xs : List Value} (h : W.ownsRow b e sz v n xs) (hc : c ≤ b) : W.ownsRow c e sz v n xs := by
 obtain ⟨q1, q2 | ⟨g, cap, cur, q2, hb, q3⟩⟩ := h
 ·exact ⟨q1, .inl q2⟩
 ·exact ⟨q1, .inr ⟨g, cap, cur, q2, by omega, q3⟩⟩
theorem own_cell_row {W : World} {b : Nat} {e : TypeId} {sz : Nat} {v : Value} {n : Nat} {xs : List Value} (h : W.ownsRow b e sz v n xs) : v.oneCell' = true := by
 obtain ⟨_, ⟨rfl, _⟩ | ⟨g, cap, cur, rfl, _⟩⟩ := h <;> rfl
theorem wp_call_upW {P : Program} {o : Oper} {a : Act} {w : World} {K : Act → World → Prop} {Q : Exit → Act → World → Prop} {f : FuncId} {args : Array Value} (base : Nat) (F : Option Flt3) (R : Value → World → Prop) (B : World → Prop) (hx : (execOp a.eval o).run P w = .ok (.enter f args) w)
 (c : Calls P f args w fun e w' => Gup base F e w' (fun v => R v w') ∧ B w') (h : F = none → ∀ v w', R v w' → B w' → K (a.put o.dst v) w')
 (hp : ∀ x, F = some x → ∀ g w', base ≤ g → w'.heap[g]? = some (.cells (frw x) 35 (0, 0)) → B w' → Q (.panic [{ v := .iface 87 (.pointer (some ⟨g, 0, none⟩)), recovered := false }]) a w') : o.wp P a w K Q := by
 unfold Oper.wp
 rw [hx, Oper.upon_enter]
 refine c.mono fun e w' ⟨hG, hB⟩ => ?_
 cases F with
 | none =>
  obtain ⟨v, rfl, hv⟩ := hG
  exact h rfl v w' hv hB
 | some x =>
  obtain ⟨g, rfl, h1, h2⟩ := hG
  exact hp x rfl g w' h1 h2 hB
set_option maxRecDepth 100000 in
set_option maxHeartbeats 16000000 in
theorem a_decodeF {W : World} {S : Nat → Prop} {v : Value} {ts : List Slt} (h : RdL W S v ts) (hfl : ∀ i, i < ts.length → Fla (gs ts i)) (d : List B) (bv : Value) (from_ : Int) (hfr : 0 ≤ from_ ∧ from_ ≤ 1099511627776) (w : World) (hw : Below W.heap.size W w) (hB : BysB w bv d) (hcap : ∀ a l c, bv = .slice a l c → l ≤ c) :
 Calls Tryz.prog 62 #[v, bv, .int .i64 from_] w fun e w' => Gup w.heap.size (dec8 ts d from_) e w' (fun u => ∃ pv fv us, u = .agg #[.int .u64 0, .slice none 0 0, pv] ∧ w'.ownsRow w.heap.size 78 3 pv (dfs (dwh d)).length (vrk (dfs (dwh d)) us (dfs (dwh d)).length) ∧ Fts w' w.heap.size fv us (dfs (dwh d))) ∧ Below w.heap.size w w' := by
 cases h with
 | mk ao cap ts rows us_ hl hc hnn h hs =>
  clear hs
  have rZ := hp1_0 w (.cells #[.int .u64 0, .slice none 0 0, .slice none 0 0] 78)
  have hb0 : Below w.heap.size w (w.alloc (.cells #[.int .u64 0, .slice none 0 0, .slice none 0 0] 78)) := (Below.refl _ _).alloc (Nat.le_refl _) _
  have cDe := hide (a_decode d (w.alloc (.cells #[.int .u64 0, .slice none 0 0, .slice none 0 0] 78)) bv (hB.keep hb0) hcap)
  obtain ⟨R, hR⟩ : ∃ R, dec8 ts d from_ = R := ⟨_, rfl⟩
  rw [hR]
  replace hb0 := hide hb0
  replace rZ := hide rZ
  clear hB hcap
  go_enter Tryz.func62, Tryz.ntmps62
  go_upto_region 1 with (fail)
  generalize w.alloc (.cells #[.int .u64 0, .slice none 0 0, .slice none 0 0] 78) = w0 at *
  go_wp2_with (fail)
  refine cDe.out.mono ?_
  rintro e_ y ⟨fv, us, rfl, hFt, hb1⟩
  have rZ1 := hide (keep hb1 rZ.out)
  have lz := lt_of_row rZ.out
  have lzy := hb1.size
  have hw0 := hide (Below.after hb0.out hb1)
  have hwy := hide (Below.after hw hw0.out)
  clear cDe rZ hb1 hb0
  by_cases hde : der (dwh d) = 0
  ·have hfok := dfs_oks d
   have hf64 := dfs_len d hde
   have hee := eer_ok.1 (dec_enc hde).1
   have hkn : ∀ i, i < (dfs (dwh d)).length → _ := fun i hi => ech_all _ 0 (by decide) hee.2.1 _ (gf_mem hi)
   have hebs := hee.2.2
   have eR : R = dcF (ts.drop 0) ((dfs (dwh d)).drop 0) (from_ + ((ebs ((dfs (dwh d)).take 0)).length : Int)) := by rw [← hR, dec8, if_neg (by omega)]; simp [ebs]
   rw [hde]
   clear hR hee hde
   generalize hfs : dfs (dwh d) = fs at *
   replace hfs := hide hfs
   generalize dpl (dwh d) = pl at *
   obtain ⟨fo, fcap, rfl⟩ : ∃ fo fcap, fv = .slice fo fs.length fcap := by
    obtain ⟨_, ⟨rfl, h0⟩ | ⟨g, cap, cur, rfl, _⟩⟩ := hFt.1
    ·exact ⟨none, 0, by rw [h0]⟩
    ·exact ⟨_, _, rfl⟩
   replace hFt := hide hFt
   replace eR := hide eR
   go_wp2_with (fail)
   go_loopw [30, 10, 11, 12, 13] (fun i pv at_ _ _ wr => ∃ k : Nat, k ≤ ts.length ∧ k ≤ fs.length ∧ i = .int .i64 k ∧ at_ = .int .i64 (from_ + ((ebs (fs.take k)).length : Int)) ∧ R = dcF (ts.drop k) (fs.drop k) (from_ + ((ebs (fs.take k)).length : Int)) ∧ wr.ownsRow y.heap.size 78 3 pv k (vrk fs us k) ∧ Below y.heap.size y wr) (fun i _ _ _ _ _ => ts.length - (intOf i).toNat)
   case atStart => exact ⟨0, by omega, by omega, rfl, by simp [ebs], eR.out, ⟨rfl, .inl ⟨rfl, rfl⟩⟩, Below.refl _ _⟩
   case round =>
    clear eR
    obtain ⟨k, hk, hkl, rfl, rfl, eR, hOp, hby⟩ := hrel
    by_cases hlt : k < ts.length
    ·generalize u10 = pv at *
     have hdk : decide ((k : Int) < (ts.length : Int)) = true := by simp; omega
     obtain ⟨b, rfl, hbl, _, hra, hSl⟩ := h k hlt
     obtain ⟨wt, k1, k2, k3, a1, a2, a3, hrow, hwt, hent, hcall⟩ := a_slotRead hSl (hfl k hlt)
     rw [hrow] at hra
     have szwr := hby.size
     have hWw : Below W.heap.size W wr := hwy.out.trans (hby.mono (by have := hwy.out.size; omega))
     have hrw := rangeS_keep2 hra hWw hbl
     have hpo : ∀ z, pv.ownBlock = some z → y.heap.size ≤ z ∧ z < wr.heap.size := own_high_row hOp
     have hba : Below wr.heap.size wr (wr.alloc (.cells #[.int .i64 0, .int .i64 0, .nilFunc, .nilFunc, .nilFunc] 166)) := (Below.refl _ _).alloc (Nat.le_refl _) _
     have rS := hp1_0 wr (.cells #[.int .i64 0, .int .i64 0, .nilFunc, .nilFunc, .nilFunc] 166)
     have hone : (rdv (gs ts k).no wt k1 k2 k3 a1 a2 a3).all (·.oneCell') = true := by simp [rdv, Value.oneCell']
     have hbb := below_setRow (g := wr.heap.size) hba (Nat.le_refl _) (rdv (gs ts k).no wt k1 k2 k3 a1 a2 a3)
     have rS2 := setRow_heap _ wr.heap.size _ (rdv (gs ts k).no wt k1 k2 k3 a1 a2 a3) _ _ rS
     replace hOp := own_keep_row hOp hbb
     have hfy := hby
     replace hby := Below.after hby hbb
     clear hba hbb hra hrow
     replace hwt := hide hwt
     by_cases hkf : k = fs.length
     ·rw [dcF_short hlt hkf.symm] at eR
      subst hkf
      rw [List.take_length] at eR
      replace eR := hide eR
      unfold rdv at *
      generalize (gs ts fs.length).no = no at *
      replace hby := hide hby
      clear hcall hSl hOp rS2 hfy hpo hWw
      rw [List.take_length]
      generalize from_ + ((ebs fs).length : Int) = at_ at *
      go_upto_region 9 with (first | (refine wpList_load_mid rfl 166 _ rfl b (fs.length * 5) rfl _ _ hrw Tryz.underlying166 rfl infoSt' ?_) | (refine wpList_store_row rfl 166 _ _ rfl wr.heap.size #[.int .i64 no, .int .i64 wt, .func (.func k1) #[] a1, .func (.func k2) #[] a2, .func (.func k3) #[] a3] rfl rfl 166 _ rS infoSt' rfl hone ?_) | fail)
      try unfold WpStay
      generalize (wr.alloc (.cells #[.int .i64 0, .int .i64 0, .nilFunc, .nilFunc, .nilFunc] 166)).setRow wr.heap.size #[.int .i64 no, .int .i64 wt, .func (.func k1) #[] a1, .func (.func k2) #[] a2, .func (.func k3) #[] a3] = x0 at *
      go_wp2_with (fail)
      refine (a_giveUp 0 at_ 81 _).mono ?_
      rintro e_ x2 ⟨⟨g, rfl, hgl, hgr⟩, hb2⟩
      have szx := hby.out.size
      have szy := hw0.out.size
      have hz := Below.after hby.out hb2
      go_wp2
      rw [eR.out]
      exact ⟨rfl, ⟨g, rfl, by omega, hgr⟩, hw0.out.trans (hz.mono (by omega))⟩
     ·have hkf2 : k < fs.length := by omega
      have hdf : ((k : Int) == (fs.length : Int)) = false := by simp; omega
      have hdf2 : ¬ (k : Int) = (fs.length : Int) := by omega
      rw [dcF_step hlt hkf2] at eR
      obtain ⟨fb, fcap2, efv, hfb1, hfb2, hfrow⟩ := (hFt.out).at hkf2
      cases efv
      replace hfrow := rangeS_keep2 hfrow hby hfb2
      obtain ⟨hk0, hk1, hk2, _⟩ := hkn k hkf2
      have hfo := hfok k hkf2
      obtain ⟨fda, fdc, hus⟩ := slen_own (hFt.out.2.2.1 k (by rw [hFt.out.2.1]; exact hkf2))
      have hat0 : 0 ≤ from_ + ((ebs (fs.take k)).length : Int) ∧ from_ + ((ebs (fs.take k)).length : Int) ≤ 4611686018427387904 := by
       have e := ebs_split fs k
       have e2 : (ebs fs).length = (ebs (fs.take k)).length + (ebs (fs.drop k)).length := by rw [e, List.length_append]
       omega
      have hat1 : Hid (from_ + ((ebs (fs.take k)).length : Int) + ((fby (gf fs k)).length : Int) = from_ + ((ebs (fs.take (k + 1))).length : Int)) := hide (by rw [ebs_take fs k hkf2]; omega)
      have hvk : Hid (vrk fs us (k + 1) = vrk fs us k ++ [.int .u64 ((gf fs k).num : Int), gv us k, .slice none 0 0]) := hide rfl
      have cE := hide (fun V => a_endOf (gf fs k) fda fdc (from_ + ((ebs (fs.take k)).length : Int)) hat0 hfo hk0 hk1 hk2 V)
      have cD := hide (fun V (hV : Below y.heap.size y V) => a_slotDecode (gs ts k).no wt k1 k2 k3 a1 a2 a3 (gf fs k).no (gf fs k).ty (gf fs k).num fda (gf fs k).dat.length fdc (from_ + ((ebs (fs.take k)).length : Int)) (rdE (from_ + ((ebs (fs.take k)).length : Int)) (ftF (gs ts k) (gf fs k))) V hent (fun V' hV' => hcall (gf fs k) fda (gf fs k).dat.length fdc _ V' rfl (by have := hfo.2.1; omega) (hwy.out.trans ((Below.after hV hV').mono (by have := hwy.out.size; omega)))))
      obtain ⟨F, hF⟩ : ∃ F, dsl (gs ts k) (gf fs k) (from_ + ((ebs (fs.take k)).length : Int)) = F := ⟨_, rfl⟩
      rw [hF] at eR
      rw [show (if (gf fs k).no ≠ (gs ts k).no then some ⟨0, from_ + ((ebs (fs.take k)).length : Int), 81⟩ else if (gf fs k).ty ≠ wt then some ⟨0, from_ + ((ebs (fs.take k)).length : Int), 82⟩ else rdE (from_ + ((ebs (fs.take k)).length : Int)) (ftF (gs ts k) (gf fs k))) = F by rw [← hF, dsl, ← hwt.out]] at cD
      replace eR := hide eR
      have hfl3 : (gf fs k).dat.length < 9223372036854775808 := by have := hfo.2.1; omega
      unfold rdv vrw frow at *
      rw [hus] at hfrow hvk
      rw [hat1.out] at eR
      clear hcall hSl hF hus hfo hk0 hk1 hk2 hat0 hwt
      generalize from_ + ((ebs (fs.take k)).length : Int) = at_ at *
      generalize ((fby (gf fs k)).length : Int) = FL at *
      generalize (gf fs k).no = fno at *
      generalize (gf fs k).ty = fty at *
      generalize (gf fs k).num = fnum at *
      generalize (gf fs k).dat.length = fdl at *
      generalize (gs ts k).no = no at *
      replace hby := hide hby
      replace hOp := hide hOp
      replace rS2 := hide rS2
      replace hfrow := hide hfrow
      go_upto_region 9 with (first | (refine wpList_load_mid rfl 166 _ rfl b (k * 5) rfl _ _ hrw Tryz.underlying166 rfl infoSt' ?_) | (refine wpList_store_row rfl 166 _ _ rfl wr.heap.size #[.int .i64 no, .int .i64 wt, .func (.func k1) #[] a1, .func (.func k2) #[] a2, .func (.func k3) #[] a3] rfl rfl 166 _ rS infoSt' rfl hone ?_) | fail)
      try unfold WpStay
      generalize (wr.alloc (.cells #[.int .i64 0, .int .i64 0, .nilFunc, .nilFunc, .nilFunc] 166)).setRow wr.heap.size #[.int .i64 no, .int .i64 wt, .func (.func k1) #[] a1, .func (.func k2) #[] a2, .func (.func k3) #[] a3] = x0 at *
      go_upto_region 11 with (fail)
      have hbd : Below x0.heap.size x0 x0.drew := below_drN (Below.refl _ _) 1
      have HS : (fun W : World => W.heap[wr.heap.size]? = some (.cells #[.int .i64 no, .int .i64 wt, .func (.func k1) #[] a1, .func (.func k2) #[] a2, .func (.func k3) #[] a3] 166 (0, 0)) ∧ W.rangeAt fb (k * 4) [.int .i64 fno, .int .i64 fty, .int .u64 (fnum : Int), .slice fda fdl fdc]) x0.drew := ⟨rS2.out, hfrow.out⟩
      replace hOp := own_keep_row hOp.out hbd
      replace hby := Below.after hby.out hbd
      have hi9 : 0 ≤ (k : Int) ∧ (k : Int) < (fs.length : Int) := by omega
      clear hbd rS2 hfrow rS hfy hWw hrw hent hone hdk hdf hdf2 hkn hfok h
      generalize wr.heap.size = gS at *
      refine wp_region_held (S := fun W : World => W.heap[gS]? = some (.cells #[.int .i64 no, .int .i64 wt, .func (.func k1) #[] a1, .func (.func k2) #[] a2, .func (.func k3) #[] a3] 166 (0, 0)) ∧ W.rangeAt fb (k * 4) [.int .i64 fno, .int .i64 fty, .int .u64 (fnum : Int), .slice fda fdl fdc]) (by kernel_rfl) ?_
      change wpAnyH _ _ _ _ _ _ _ _ (World.drew _)
      generalize x0.drew = x1 at *
      refine wpAnyH_take (i := 0) (v := ?v1) rfl (by kernel_rfl) (by kernel_rfl) (by kernel_rfl) (fun _ _ _ h => h) (Or.inl ⟨by rfl, ?y1⟩) HS ?r1
      case y1 =>
       intro w_ hS_
       go_simp
       try with_reducible rfl
      simp only [Act.put, List.getElem_toArray, List.getElem_cons_zero, List.setIfInBounds_toArray, List.set_cons_succ, List.set_cons_zero]
      refine wpAnyH_take (i := 1) (v := .agg #[.int .i64 no, .int .i64 wt, .func (.func k1) #[] a1, .func (.func k2) #[] a2, .func (.func k3) #[] a3]) rfl (by kernel_rfl) (by kernel_rfl) (by kernel_rfl) (fun _ _ _ h => h) (yieldsIf_load_mid (by rfl) 166 _ rfl gS 0 rfl [.int .i64 no, .int .i64 wt, .func (.func k1) #[] a1, .func (.func k2) #[] a2, .func (.func k3) #[] a3] _ (fun _ h => range_row ⟨_, h.1⟩) Tryz.underlying166 rfl infoSt') HS ?_
      simp only [Act.put, List.getElem_toArray, List.getElem_cons_succ, List.getElem_cons_zero, List.setIfInBounds_toArray, List.set_cons_succ, List.set_cons_zero]
      refine wpAnyH_take (i := 2) (v := ?v3) rfl (by kernel_rfl) (by kernel_rfl) (by kernel_rfl) (fun _ _ _ h => h) (Or.inl ⟨by rfl, ?y3⟩) HS ?r3
      case y3 =>
       intro w_ hS_
       go_simp
       try with_reducible rfl
      simp only [Act.put, List.getElem_toArray, List.getElem_cons_succ, List.getElem_cons_zero, List.setIfInBounds_toArray, List.set_cons_succ, List.set_cons_zero]
      refine wpAnyH_take (i := 3) (v := ?v4) rfl (by kernel_rfl) (by kernel_rfl) (by kernel_rfl) (fun _ _ _ h => h) (Or.inl ⟨by rfl, ?y4⟩) HS ?r4
      case y4 =>
       intro w_ hS_
       go_simp
       try with_reducible rfl
      simp only [Act.put, List.getElem_toArray, List.getElem_cons_succ, List.getElem_cons_zero, List.setIfInBounds_toArray, List.set_cons_succ, List.set_cons_zero]
      refine wpAnyH_take (i := 4) (v := ?v5) rfl (by kernel_rfl) (by kernel_rfl) (by kernel_rfl) (fun _ _ _ h => h) (Or.inl ⟨by rfl, ?y5⟩) HS ?r5
      case y5 =>
       intro w_ hS_
       go_simp
       try with_reducible rfl
      simp only [Act.put, List.getElem_toArray, List.getElem_cons_succ, List.getElem_cons_zero, List.setIfInBounds_toArray, List.set_cons_succ, List.set_cons_zero]
      refine wpAnyH_take (i := 5) (v := .agg #[.int .i64 fno, .int .i64 fty, .int .u64 (fnum : Int), .slice fda fdl fdc]) rfl (by kernel_rfl) (by kernel_rfl) (by kernel_rfl) (fun _ _ _ h => h) (yieldsIf_load_mid (by rfl) 72 _ rfl fb (k * 4) rfl [.int .i64 fno, .int .i64 fty, .int .u64 (fnum : Int), .slice fda fdl fdc] _ (fun _ h => h.2) Tryz.underlying72 rfl infoFi) HS ?_
      simp only [Act.put, List.getElem_toArray, List.getElem_cons_succ, List.getElem_cons_zero, List.setIfInBounds_toArray, List.set_cons_succ, List.set_cons_zero]
      refine wpAnyH_take (i := 6) (v := ?v7) rfl (by kernel_rfl) (by kernel_rfl) (by kernel_rfl) (fun _ _ _ h => h) (Or.inl ⟨by rfl, ?y7⟩) HS ?r7
      case y7 =>
       intro w_ hS_
       go_simp
       try with_reducible rfl
      simp only [Act.put, List.getElem_toArray, List.getElem_cons_succ, List.getElem_cons_zero, List.setIfInBounds_toArray, List.set_cons_succ, List.set_cons_zero]
      refine wpAnyH_one (k := 7) (fuel := 3) (by kernel_rfl) rfl (by kernel_rfl) (fun K_ hK => ?_)
      refine wp_call_up (base := x1.heap.size) (F := F) (R := fun v => v = .agg #[.int .u64 (fnum : Int), .slice fda fdl fdc, .slice none 0 0]) (B := fun w' => Below x1.heap.size x1 w') (by kernel_rfl) (cD.out x1 hby) ?_ ?_
      ·intro hF v_ x2 hv hb_
       subst hv
       rw [hF] at eR
       have lgs := lt_of_row HS.1
       have szy1 := hby.size
       replace hOp := own_keep_row hOp hb_
       have szb_x2 := hb_.size
       have HS' : (fun W : World => W.heap[gS]? = some (.cells #[.int .i64 no, .int .i64 wt, .func (.func k1) #[] a1, .func (.func k2) #[] a2, .func (.func k3) #[] a3] 166 (0, 0)) ∧ W.rangeAt fb (k * 4) [.int .i64 fno, .int .i64 fty, .int .u64 (fnum : Int), .slice fda fdl fdc]) _ := ⟨keep hb_ HS.1, rangeS_keep2 HS.2 hb_ (by omega)⟩
       replace HS := HS'
       clear HS'
       replace hby := Below.after hby hb_
       clear hb_
       refine hK _ _ HS ?_
       simp only [Act.put, List.getElem_toArray, List.getElem_cons_succ, List.getElem_cons_zero, List.setIfInBounds_toArray, List.set_cons_succ, List.set_cons_zero]
       clear hK
       refine wpAnyH_one (k := 8) (fuel := 2) (by kernel_rfl) rfl (by kernel_rfl) (fun K_ hK => ?_)
       refine wp_world_op (.slice (some ⟨x2.heap.size, 0, none⟩) 1 1) (x2.alloc (.cells #[.int .u64 (fnum : Int), .slice fda fdl fdc, .slice none 0 0] 78)) (op_bv1 _ rfl _ _ _ rfl) ?_
       have NV := new_cells4 x2 #[.int .u64 (fnum : Int), .slice fda fdl fdc, .slice none 0 0] 78
       have hb_ : Below x2.heap.size x2 (x2.alloc (.cells #[.int .u64 (fnum : Int), .slice fda fdl fdc, .slice none 0 0] 78)) := (Below.refl _ _).alloc (Nat.le_refl _) _
       replace hOp := own_keep_row hOp hb_
       have szb_x3 := hb_.size
       have HS' : (fun W : World => W.heap[gS]? = some (.cells #[.int .i64 no, .int .i64 wt, .func (.func k1) #[] a1, .func (.func k2) #[] a2, .func (.func k3) #[] a3] 166 (0, 0)) ∧ W.rangeAt fb (k * 4) [.int .i64 fno, .int .i64 fty, .int .u64 (fnum : Int), .slice fda fdl fdc]) _ := ⟨keep hb_ HS.1, rangeS_keep2 HS.2 hb_ (by omega)⟩
       replace HS := HS'
       clear HS'
       replace hby := Below.after hby hb_
       clear hb_
       refine hK _ _ HS ?_
       simp only [Act.put, List.getElem_toArray, List.getElem_cons_succ, List.getElem_cons_zero, List.setIfInBounds_toArray, List.set_cons_succ, List.set_cons_zero]
       clear hK
       generalize x2.alloc (.cells #[.int .u64 (fnum : Int), .slice fda fdl fdc, .slice none 0 0] 78) = x3 at *
       generalize x2.heap.size = gV at *
       refine wpAnyH_one (k := 9) (fuel := 1) (by kernel_rfl) rfl (by kernel_rfl) (fun K_ hK => ?_)
       obtain ⟨iV, hiV, hiz, his, hib⟩ := infoVI
       refine wp_append_nx _ _ 76 rfl y.heap.size 78 iV (.agg #[.int .u64 0, .slice none 0 0, .slice none 0 0]) 3 56 Tryz.underlying76 hiV hiz his hib rfl (by decide) pv k (vrk fs us k) rfl hOp ⟨gV, 0, none⟩ 1 1 [.int .u64 (fnum : Int), .slice fda fdl fdc, .slice none 0 0] rfl rfl NV (fun x hx => ?_) (by unfold maxLen; omega) (by omega) hby.size (fun pv' x4 hO4 hgr _ => ?_)
       ·simp at hx
        rcases hx with rfl | rfl | rfl <;> rfl
       have HS4 : (fun W : World => W.heap[gS]? = some (.cells #[.int .i64 no, .int .i64 wt, .func (.func k1) #[] a1, .func (.func k2) #[] a2, .func (.func k3) #[] a3] 166 (0, 0)) ∧ W.rangeAt fb (k * 4) [.int .i64 fno, .int .i64 fty, .int .u64 (fnum : Int), .slice fda fdl fdc]) x4 := ⟨(hgr.block gS (lt_of_row HS.1) (fun e => by have := (hpo gS e.symm).2; omega)).trans HS.1, fun j v hv => (World.cell?_of_block (hgr.block fb (by omega) (fun e => by have := (hpo fb e.symm).1; omega))).trans (HS.2 j v hv)⟩
       have szy := hby.size
       replace hby := hby.grown hgr szy (fun z e => (hpo z e).1)
       refine hK _ _ HS4 ?_
       simp only [Act.put, List.getElem_toArray, List.getElem_cons_succ, List.getElem_cons_zero, List.setIfInBounds_toArray, List.set_cons_succ, List.set_cons_zero]
       clear hK HS hOp
       refine wpAnyH_take (i := 10) (v := ?v99) rfl (by kernel_rfl) (by kernel_rfl) (by kernel_rfl) (fun _ _ _ h => h) (Or.inl ⟨by rfl, ?y99⟩) HS4 ?r99
       case y99 =>
        intro w_ hS_
        go_simp
        try with_reducible rfl
       simp only [Act.put, List.getElem_toArray, List.getElem_cons_succ, List.getElem_cons_zero, List.setIfInBounds_toArray, List.set_cons_succ, List.set_cons_zero]
       refine wpAnyH_done (by kernel_rfl) ?_ _
       have hF4 := HS4.2
       clear HS4 NV
       replace hO4 := hide hO4
       replace hby := hide hby
       go_wp2_with (first | (refine wpList_load_mid rfl 72 _ rfl fb (k * 4) rfl _ _ hF4 Tryz.underlying72 rfl infoFi ?_) | fail)
       refine (cE.out x4).mono ?_
       rintro e_ x5 ⟨_, rfl, rfl, hb_⟩
       replace hO4 := hide (own_keep_row hO4.out hb_)
       replace hby := hide (Below.after hby.out hb_)
       clear hb_ cE hF4
       go_wp2_with (fail)
       refine ⟨⟨k + 1, by omega, by omega, by go_num, by rw [hat1.out], eR.out, by rw [hvk.out]; exact hO4.out, hby.out⟩, ?_⟩
       simp [intOf]; omega
      ·intro x hF g x2 h1_ h2_ hb_
       rw [hF] at eR
       have szx := hby.size
       have szy := hw0.out.size
       replace hby := Below.after hby hb_
       go_wp2_with (fail)
       rw [eR.out]
       exact ⟨rfl, ⟨g, rfl, by omega, h2_⟩, hw0.out.trans (hby.mono (by omega))⟩
    ·obtain rfl : k = ts.length := by omega
     generalize u10 = pv at *
     have hdk : decide ((ts.length : Int) < (ts.length : Int)) = false := by simp
     have szy := hby.size
     clear h hfl hkn hfok hnn
     by_cases hlf : ts.length < fs.length
     ·rw [dcF_long rfl hlf] at eR
      have hdl : decide ((ts.length : Int) < (fs.length : Int)) = true := by simp; omega
      replace eR := hide eR
      replace hby := hide hby
      clear hOp
      generalize from_ + ((ebs (fs.take ts.length)).length : Int) = at_ at *
      go_wp2_with (fail)
      refine (a_giveUp 0 at_ 81 _).mono ?_
      rintro e_ x2 ⟨⟨g, rfl, hgl, hgr⟩, hb2⟩
      have szx := hby.out.size
      have szy := hw0.out.size
      have hz := Below.after hby.out hb2
      go_wp2
      rw [eR.out]
      exact ⟨rfl, ⟨g, rfl, by omega, hgr⟩, hw0.out.trans (hz.mono (by omega))⟩
     ·have hle : fs.length = ts.length := by omega
      rw [dcF_end rfl hle] at eR
      have hdl : decide ((ts.length : Int) < (fs.length : Int)) = false := by simp; omega
      rw [← hle] at hOp
      obtain ⟨po, pn, pc, rfl⟩ : ∃ po pn pc, pv = .slice po pn pc := by
       obtain ⟨_, ⟨rfl, _⟩ | ⟨g, cap, cur, rfl, _⟩⟩ := hOp
       ·exact ⟨_, _, _, rfl⟩
       ·exact ⟨_, _, _, rfl⟩
      have rZ3 := (hby.block w.heap.size (by omega)).trans rZ1.out
      have hone : (#[Value.int .u64 0, .slice none 0 0, .slice po pn pc] : Array Value).all (·.oneCell') = true := by simp [Value.oneCell']
      have hmv : ∀ g o, w.heap.size < g → wr.heap[g]? = some o → (wr.setRow w.heap.size #[.int .u64 0, .slice none 0 0, .slice po pn pc]).heap[g]? = some o := fun g o hg ho => (setRow_other wr w.heap.size g #[.int .u64 0, .slice none 0 0, .slice po pn pc] (by omega)).trans ho
      have RF := hide (setRow_heap wr w.heap.size _ #[.int .u64 0, .slice none 0 0, .slice po pn pc] _ _ rZ3)
      have hwF := hide (below_setRow (g := w.heap.size) (hw0.out.trans (hby.mono (by omega))) (Nat.le_refl _) #[.int .u64 0, .slice none 0 0, .slice po pn pc])
      have hOF := hide (own_down_row (own_move_row hOp (fun g o hg ho => hmv g o (by omega) ho)) (show w.heap.size ≤ y.heap.size by omega))
      have hFF := hide (Fts.down (Fts.move (hFt.out.keep hby) (fun g o hg ho => hmv g o (by omega) ho)) (show w.heap.size ≤ w0.heap.size by omega))
      replace eR := hide eR
      clear hOp hby hmv hFt hw0 hwy rZ1
      replace hle := hide hle
      go_wp2_with (first | (refine wpList_store_row rfl 78 _ _ rfl w.heap.size #[.int .u64 0, .slice none 0 0, .slice po pn pc] rfl rfl 78 _ rZ3 infoV rfl hone ?_) | fail)
      refine bodyPost_ret (v := .agg #[.int .u64 0, .slice none 0 0, .slice po pn pc]) (results_cell_row Tryz.results62 _ _ w.heap.size _ _ _ _ rfl RF.out Tryz.underlying78 rfl infoV) rfl ⟨?_, hwF.out⟩
      rw [eR.out]
      exact ⟨_, rfl, _, _, us, rfl, by rw [hfs.out]; exact hOF.out, by rw [hfs.out]; exact hFF.out⟩
  ·have eR : R = some ⟨0, from_ + dpl (dwh d), der (dwh d)⟩ := by rw [← hR, dec8, if_pos hde]
   have hd1 : (der (dwh d) == 0) = false := by simpa using hde
   replace eR := hide eR
   replace hde := hide hde
   have hpl := dpl_bd d
   clear hR h hfl hnn hFt
   generalize der (dwh d) = E at *
   generalize dpl (dwh d) = pl at *
   have hb9 := hw0.out
   go_wp2_with (fail)
   refine (a_giveUp 0 (from_ + pl) E _).mono ?_
   rintro e_ x2 ⟨⟨g, rfl, hgl, hgr⟩, hb2⟩
   have szx := (Below.refl y.heap.size y).size
   have szy := hw0.out.size
   have hz := Below.after (Below.refl y.heap.size y) hb2
   go_wp2
   rw [eR.out]
   exact ⟨rfl, ⟨g, rfl, by omega, hgr⟩, hw0.out.trans (hz.mono (by omega))⟩
end Go.Proofs.YtjoohgkgkabbpaaGreatDoor

