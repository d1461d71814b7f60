import Derived.Test.YtlbndkfllegacaaGreatDoorCQc0
import Derived.Test.YtlbndkfllegacaaGreatDoorCQa8
import Derived.OwnWalk
import Derived.Deep.Cut
import Derived.Deep.RegionHeld3
namespace Go.Proofs.YtlbndkfllegacaaGreatDoor
set_option maxRecDepth 100000
open Go Go.RowKit Go.Sort
attribute [local go_sem] setCell_drewN alloc_drewN
set_option maxRecDepth 100000 in
set_option maxHeartbeats 8000000 in
theorem a_plain3 (k : FuncId) (hk : k = 139 ∨ k = 141 ∨ k = 143) (n : Nat) (no ty : Int) (da : Option Addr) (dl dc : Nat) (at_ E : Int) (g2 gs : Nat) (w : World) (h2 : Bx w g2 #[.func (.func k) #[] #[ptr gs]])
   (hF : ∀ V, Below w.heap.size w V → Calls Tryz.prog k #[.agg (vrw n (.slice da dl dc) (.slice none 0 0)), ptr gs] V fun e w' => e = .returned (.int .i64 E) ∧ Below V.heap.size V w') :
   Calls Tryz.prog 158 #[.agg #[.int .i64 no, .int .i64 ty, .int .u64 (n : Int), .slice da dl dc], .int .i64 at_, ptr g2] w fun e w' => Gup w.heap.size (rdE at_ E) e w' (fun v => v = .agg (vrw n (.slice da dl dc) (.slice none 0 0))) ∧ Below w.heap.size w w' := by
 obtain ⟨T2, h2⟩ := h2
 have l2 := lt_of_row h2
 have r1 := hp3_1 w (.cells #[.int .i64 no, .int .i64 ty, .int .u64 (n : Int), .slice da dl dc] 70) (.cells #[.int .u64 0, .slice none 0 0, .slice none 0 0] 76) (.cells #[.int .u64 0, .slice none 0 0, .slice none 0 0] 76)
 have r2 := hp3_2 w (.cells #[.int .i64 no, .int .i64 ty, .int .u64 (n : Int), .slice da dl dc] 70) (.cells #[.int .u64 0, .slice none 0 0, .slice none 0 0] 76) (.cells #[.int .u64 0, .slice none 0 0, .slice none 0 0] 76)
 have hb0 : Below w.heap.size w (((w.alloc (.cells #[.int .i64 no, .int .i64 ty, .int .u64 (n : Int), .slice da dl dc] 70)).alloc (.cells #[.int .u64 0, .slice none 0 0, .slice none 0 0] 76)).alloc (.cells #[.int .u64 0, .slice none 0 0, .slice none 0 0] 76)) := (((Below.refl _ _).alloc (Nat.le_refl _) _).alloc (by simp) _).alloc (by simp; omega) _
 have hb := below_setRow (g := w.heap.size + 1 + 1) hb0 (by omega) #[.int .u64 (n : Int), .slice da dl dc, .slice none 0 0]
 have RV := setRow_heap _ (w.heap.size + 1 + 1) _ #[.int .u64 (n : Int), .slice da dl dc, .slice none 0 0] _ _ r2
 have R1 := (setRow_other (((w.alloc (.cells #[.int .i64 no, .int .i64 ty, .int .u64 (n : Int), .slice da dl dc] 70)).alloc (.cells #[.int .u64 0, .slice none 0 0, .slice none 0 0] 76)).alloc (.cells #[.int .u64 0, .slice none 0 0, .slice none 0 0] 76)) (w.heap.size + 1 + 1) (w.heap.size + 1) #[.int .u64 (n : Int), .slice da dl dc, .slice none 0 0] (by omega)).trans r1
 have a1 : ¬ w.heap.size = g2 := by omega
 have a2 : ¬ g2 = w.heap.size := by omega
 have a3 : ¬ w.heap.size + 1 = g2 := by omega
 have a4 : ¬ g2 = w.heap.size + 1 := by omega
 have a5 : ¬ w.heap.size + 1 + 1 = g2 := by omega
 have a6 : ¬ g2 = w.heap.size + 1 + 1 := by omega
 have hone : (#[.int .u64 (n : Int), .slice da dl dc, .slice none 0 0] : Array Value).all (·.oneCell') = true := by simp [Value.oneCell']
 have c2 : ((((w.alloc (.cells #[.int .i64 no, .int .i64 ty, .int .u64 (n : Int), .slice da dl dc] 70)).alloc (.cells #[.int .u64 0, .slice none 0 0, .slice none 0 0] 76)).alloc (.cells #[.int .u64 0, .slice none 0 0, .slice none 0 0] 76)).setRow (w.heap.size + 1 + 1) #[.int .u64 (n : Int), .slice da dl dc, .slice none 0 0]).cell? ⟨g2, 0, none⟩ = some (.func (.func k) #[] #[ptr gs]) := (hb.cell (p := ⟨g2, 0, none⟩) l2).trans (by rw [cell_of_row _ _ _ _ _ _ h2]; rfl)
 have cF := hF _ hb
 have cE := a_giveUp 0 at_ E
 obtain ⟨R, hR⟩ : ∃ R, rdE at_ E = R := ⟨_, rfl⟩
 rw [hR]
 unfold vrw at cF ⊢
 unfold ptr at *
 replace hb := hide hb
 replace RV := hide RV
 replace R1 := hide R1
 replace cF := hide cF
 replace c2 := hide c2
 clear hF h2 hb0 r1
 go_enter Tryz.func158, Tryz.ntmps158
 go_wp2_with (first | (refine wpList_store_row rfl 76 _ _ rfl (w.heap.size + 1 + 1) #[.int .u64 (n : Int), .slice da dl dc, .slice none 0 0] rfl rfl 76 _ r2 infoV rfl hone ?_; refine wpList_stay ?_) | fail)
 unfold WpStay
 clear r2
 generalize (((w.alloc (.cells #[.int .i64 no, .int .i64 ty, .int .u64 (n : Int), .slice da dl dc] 70)).alloc (.cells #[.int .u64 0, .slice none 0 0, .slice none 0 0] 76)).alloc (.cells #[.int .u64 0, .slice none 0 0, .slice none 0 0] 76)).setRow (w.heap.size + 1 + 1) #[.int .u64 (n : Int), .slice da dl dc, .slice none 0 0] = W4 at *
 have RW := RV.out
 have c2' := c2.out
 clear RV c2
 rcases hk with rfl | rfl | rfl
 all_goals
   go_wp2_with (first | (refine wpList_load_want rfl 76 _ rfl (w.heap.size + 1 + 1) rfl 76 #[.int .u64 (n : Int), .slice da dl dc, .slice none 0 0] (0, 0) _ RW Tryz.underlying76 rfl infoV ?_) | fail)
   refine cF.out.mono ?_
   rintro e_ w1 ⟨rfl, hb1⟩
   have R11 := keep hb1 R1.out
   have RW1 := keep hb1 RW
   have hw := Below.after hb.out hb1
   clear cF hb hb1 R1 RW c2'
   rcases hE : (E == 0)
   · have hE2 : ¬ E = 0 := by simpa using hE
     have eR : R = some ⟨0, at_, E⟩ := by rw [← hR, rdE, if_neg hE2]
     replace eR := hide eR
     clear hR
     go_wp2_with (fail)
     refine (cE _).mono ?_
     rintro e_ w2 ⟨hg, hb2⟩
     obtain ⟨g, rfl, hgl, hgr⟩ := hg
     have szw := hw.size
     replace hw := Below.after hw hb2
     go_wp2
     rw [eR.out]
     exact ⟨rfl, ⟨g, rfl, Nat.le_trans szw hgl, hgr⟩, hw⟩
   · obtain rfl : E = 0 := by simpa using hE
     have eR : R = none := by rw [← hR, rdE, if_pos rfl]
     replace eR := hide eR
     clear hR cE
     have RF := setRow_heap _ (w.heap.size + 1) _ #[.int .u64 (n : Int), .slice da dl dc, .slice none 0 0] _ _ R11
     have hwF := below_setRow (g := w.heap.size + 1) hw (by omega) #[.int .u64 (n : Int), .slice da dl dc, .slice none 0 0]
     replace RF := hide RF
     replace hwF := hide hwF
     go_wp2_with (first | (refine wpList_load_want rfl 76 _ rfl (w.heap.size + 1 + 1) rfl 76 #[.int .u64 (n : Int), .slice da dl dc, .slice none 0 0] (0, 0) _ RW1 Tryz.underlying76 rfl infoV ?_) | (refine wpList_store_row rfl 76 _ _ rfl (w.heap.size + 1) #[.int .u64 (n : Int), .slice da dl dc, .slice none 0 0] rfl rfl 76 _ R11 infoV rfl hone ?_) | fail)
     refine bodyPost_ret (v := .agg #[.int .u64 (n : Int), .slice da dl dc, .slice none 0 0]) (results_cell_row Tryz.results158 _ _ (w.heap.size + 1) _ _ _ _ rfl RF.out Tryz.underlying76 rfl infoV) rfl ⟨?_, hwF.out⟩
     rw [eR.out]
     exact ⟨_, rfl, rfl⟩
theorem ent_plain3 (args : Array Value) (W : World) : (callFunc 158 args).run Tryz.prog W = .ok (.enter 158 args) W := by kernel_rfl
theorem wpList_call_up {P : Program} {ops : Array Oper} {rest : List Oper} {o : Oper} {a : Act} {w : World} {Q : Exit → Act → World → Prop} {f : FuncId} {args : Array Value} (base : Nat) (F : Option Flt3) (R : Value → Prop) (B : World → Prop) (hgd : o.guard = none) (hx : (execOp a.eval o).run P w = .ok (.enter f args) w)
   (c : Calls P f args w fun e w' => Gup base F e w' R ∧ B w') (h : F = none → ∀ v w', R v → B w' → wpList P ops Q rest (a.put o.dst v) w')
   (hp : ∀ x, F = some x → ∀ g w', base ≤ g → w'.heap[g]? = some (.cells (frw x) 35 (0, 0)) → B w' → Q (.panic [{ v := .iface 85 (.pointer (some ⟨g, 0, none⟩)), recovered := false }]) a w') : wpList P ops Q (o :: rest) a w :=
 wpList_plain hgd fun _ hK => wp_call_up hx c (fun hF v w' hR hB => hK _ _ (h hF v w' hR hB)) hp
theorem a_slotRead {W : World} {S : Nat → Prop} {t : Slt} {u : Value} {row : Array Value} (h : SlC W S t u row) (hf : Fla t) : ∃ wt k1 k2 k3 a1 a2 a3, row = rdv t.no wt k1 k2 k3 a1 a2 a3 ∧ wt = wtK t ∧ (∀ args W, (callFunc k3 args).run Tryz.prog W = .ok (.enter k3 args) W) ∧
   ∀ (f : Fd) (da : Option Addr) (dl dc : Nat) (at_ : Int) (w : World), dl = f.dat.length → dl < 9223372036854775808 → Below W.heap.size W w → Calls Tryz.prog k3 (#[.agg #[.int .i64 f.no, .int .i64 f.ty, .int .u64 (f.num : Int), .slice da dl dc], .int .i64 at_] ++ a3) w fun e w' => Gup w.heap.size (rdE at_ (ftF t f)) e w' (fun v => v = .agg (vrw f.num (.slice da dl dc) (.slice none 0 0))) ∧ Below w.heap.size w w' := by
 have num : ∀ (wt l m : Int), PlC W S t.no wt 139 #[.int .i64 wt, .int .u64 l, .int .u64 m] row → wtK t = wt → (∀ f : Fd, ftF t f = wth (f.num : Int) l m) → ∃ wt k1 k2 k3 a1 a2 a3, row = rdv t.no wt k1 k2 k3 a1 a2 a3 ∧ wt = wtK t ∧ (∀ args W, (callFunc k3 args).run Tryz.prog W = .ok (.enter k3 args) W) ∧
   ∀ (f : Fd) (da : Option Addr) (dl dc : Nat) (at_ : Int) (w : World), dl = f.dat.length → dl < 9223372036854775808 → Below W.heap.size W w → Calls Tryz.prog k3 (#[.agg #[.int .i64 f.no, .int .i64 f.ty, .int .u64 (f.num : Int), .slice da dl dc], .int .i64 at_] ++ a3) w fun e w' => Gup w.heap.size (rdE at_ (ftF t f)) e w' (fun v => v = .agg (vrw f.num (.slice da dl dc) (.slice none 0 0))) ∧ Below w.heap.size w w' := by
   intro wt l m ⟨g0, g1, g2, g4, gs, e, h0, h1, h2, h4, h5⟩ hwt hE
   refine ⟨wt, _, _, _, _, _, _, e, hwt.symm, ent_plain3, fun f da dl dc at_ w hdl hx hb => ?_⟩
   rw [hE f]
   exact a_plain3 _ (.inl rfl) f.num f.no f.ty da dl dc at_ _ g2 gs w (h2.2.keep hb) (fun V hV => a_fitNum f.num da dl dc none 0 0 wt l m gs V (h5.2.keep (Below.after hb hV)))
 rcases h with ⟨hk, h⟩ | ⟨hk, h⟩ | ⟨hk, h⟩ | ⟨hk, h⟩ | ⟨hk, h⟩ | ⟨hk, h⟩ | ⟨hk, h⟩ | ⟨hk, h⟩
 · exact num 0 _ _ h (by unfold wtK; rw [if_neg (by omega), if_neg (by omega), if_neg (by omega)]) (fun f => by unfold ftF; rw [if_neg (by omega), if_neg (by omega)])
 · exact num 5 _ _ h (by unfold wtK; rw [if_pos hk]) (fun f => by unfold ftF; rw [if_neg (by omega), if_neg (by omega)])
 · exact num 1 _ _ h (by unfold wtK; rw [if_neg (by omega), if_pos hk]) (fun f => by unfold ftF; rw [if_neg (by omega), if_neg (by omega)])
 · exact num 0 _ _ h (by unfold wtK; rw [if_neg (by omega), if_neg (by omega), if_neg (by omega)]) (fun f => by unfold ftF; rw [if_neg (by omega), if_pos hk])
 · have hk5 : t.kind = 5 := by rcases hk with q | q; exact q; rcases hf with q2 | q2 | q2 | q2 | q2 <;> omega
   obtain ⟨g0, g1, g2, g4, gs, e, h0, h1, h2, h4, h5⟩ := h
   refine ⟨2, _, _, _, _, _, _, e, by unfold wtK; rw [if_neg (by omega), if_neg (by omega), if_pos hk5], ent_plain3, fun f da dl dc at_ w hdl hx hb => ?_⟩
   have he : ftF t f = wth (dl : Int) (t.least : Int) (t.most : Int) := by unfold ftF; rw [if_pos hk5, hdl]
   rw [he]
   rw [show (t.kind == 6) = false by rw [hk5]; rfl] at h5
   exact a_plain3 _ (.inr (.inr rfl)) f.num f.no f.ty da dl dc at_ _ g2 gs w (h2.2.keep hb) (fun V hV => a_fitOct f.num da dl dc none 0 0 _ _ hx gs V (h5.2.keep (Below.after hb hV)))
 · exfalso; rcases hf with q2 | q2 | q2 | q2 | q2 <;> omega
 · exfalso; rcases hf with q2 | q2 | q2 | q2 | q2 <;> omega
 · exfalso; rcases hf with q2 | q2 | q2 | q2 | q2 <;> omega
set_option maxRecDepth 100000 in
set_option maxHeartbeats 8000000 in
theorem a_slotDecode (no wt : Int) (k1 k2 k3 : FuncId) (a1 a2 a3 : Array Value) (fno fty : Int) (fnum : Nat) (da : Option Addr) (dl dc : Nat) (at_ : Int) (F : Option Flt3) (w : World)
   (hent : ∀ args W, (callFunc k3 args).run Tryz.prog W = .ok (.enter k3 args) W)
   (hC : ∀ V, Below w.heap.size w V → Calls Tryz.prog k3 (#[.agg #[.int .i64 fno, .int .i64 fty, .int .u64 (fnum : Int), .slice da dl dc], .int .i64 at_] ++ a3) V fun e w' => Gup V.heap.size F e w' (fun v => v = .agg (vrw fnum (.slice da dl dc) (.slice none 0 0))) ∧ Below V.heap.size V w') :
   Calls Tryz.prog 83 #[.agg #[.int .i64 no, .int .i64 wt, .func (.func k1) #[] a1, .func (.func k2) #[] a2, .func (.func k3) #[] a3], .agg #[.int .i64 fno, .int .i64 fty, .int .u64 (fnum : Int), .slice da dl dc], .int .i64 at_] w fun e w' => Gup w.heap.size (if fno ≠ no then some ⟨0, at_, 81⟩ else if fty ≠ wt then some ⟨0, at_, 82⟩ else F) e w' (fun v => v = .agg (vrw fnum (.slice da dl dc) (.slice none 0 0))) ∧ Below w.heap.size w w' := by
 have r0 := hp3_0 w (.cells #[.int .i64 no, .int .i64 wt, .func (.func k1) #[] a1, .func (.func k2) #[] a2, .func (.func k3) #[] a3] 162) (.cells #[.int .i64 fno, .int .i64 fty, .int .u64 (fnum : Int), .slice da dl dc] 70) (.cells #[.int .u64 0, .slice none 0 0, .slice none 0 0] 76)
 have r1 := hp3_1 w (.cells #[.int .i64 no, .int .i64 wt, .func (.func k1) #[] a1, .func (.func k2) #[] a2, .func (.func k3) #[] a3] 162) (.cells #[.int .i64 fno, .int .i64 fty, .int .u64 (fnum : Int), .slice da dl dc] 70) (.cells #[.int .u64 0, .slice none 0 0, .slice none 0 0] 76)
 have r2 := hp3_2 w (.cells #[.int .i64 no, .int .i64 wt, .func (.func k1) #[] a1, .func (.func k2) #[] a2, .func (.func k3) #[] a3] 162) (.cells #[.int .i64 fno, .int .i64 fty, .int .u64 (fnum : Int), .slice da dl dc] 70) (.cells #[.int .u64 0, .slice none 0 0, .slice none 0 0] 76)
 have hb : Below w.heap.size w (((w.alloc (.cells #[.int .i64 no, .int .i64 wt, .func (.func k1) #[] a1, .func (.func k2) #[] a2, .func (.func k3) #[] a3] 162)).alloc (.cells #[.int .i64 fno, .int .i64 fty, .int .u64 (fnum : Int), .slice da dl dc] 70)).alloc (.cells #[.int .u64 0, .slice none 0 0, .slice none 0 0] 76)) := (((Below.refl _ _).alloc (Nat.le_refl _) _).alloc (by simp) _).alloc (by simp; omega) _
 obtain ⟨R, hR⟩ : ∃ R, (if fno ≠ no then some ⟨0, at_, 81⟩ else if fty ≠ wt then some ⟨0, at_, 82⟩ else F) = R := ⟨_, rfl⟩
 rw [hR]
 have cC := hC _ hb
 unfold vrw at cC ⊢
 replace hb := hide hb
 replace cC := hide cC
 clear hC
 have hone : (#[.int .u64 (fnum : Int), .slice da dl dc, .slice none 0 0] : Array Value).all (·.oneCell') = true := by simp [Value.oneCell']
 go_enter Tryz.func83, Tryz.ntmps83
 go_upto_region 1 with (fail)
 generalize (((w.alloc (.cells #[.int .i64 no, .int .i64 wt, .func (.func k1) #[] a1, .func (.func k2) #[] a2, .func (.func k3) #[] a3] 162)).alloc (.cells #[.int .i64 fno, .int .i64 fty, .int .u64 (fnum : Int), .slice da dl dc] 70)).alloc (.cells #[.int .u64 0, .slice none 0 0, .slice none 0 0] 76)) = W3 at *
 have s0 := cell_of_row _ _ 0 _ _ _ r0
 have s1 := cell_of_row _ _ 1 _ _ _ r0
 have s4 := cell_of_row _ _ 4 _ _ _ r0
 have f0 := cell_of_row _ _ 0 _ _ _ r1
 have f1 := cell_of_row _ _ 1 _ _ _ r1
 by_cases hno : fno = no
 · subst hno
   by_cases hty : fty = wt
   · subst hty
     have eR : F = R := by rw [← hR, if_neg (by simp), if_neg (by simp)]
     replace eR := hide eR
     clear hR
     replace r2 := hide r2
     go_upto_region 5 with (fail)
     clear s0 s1 f0 f1
     repeat ((fail_if_success (refine wpList_load_want rfl 70 _ rfl (w.heap.size + 1) rfl 70 #[.int .i64 fno, .int .i64 fty, .int .u64 (fnum : Int), .slice da dl dc] (0, 0) _ r1 Tryz.underlying70 rfl infoFi ?_)); first | go_skip | go_step)
     refine wpList_load_want rfl 70 _ rfl (w.heap.size + 1) rfl 70 #[.int .i64 fno, .int .i64 fty, .int .u64 (fnum : Int), .slice da dl dc] (0, 0) _ r1 Tryz.underlying70 rfl infoFi ?_
     try simp only [Act.put, List.setIfInBounds_toArray, List.set_cons_succ, List.set_cons_zero]
     repeat ((fail_if_success (refine wpList_call_up W3.heap.size F (fun v => v = .agg #[.int .u64 (fnum : Int), .slice da dl dc, .slice none 0 0]) (fun w' => Below W3.heap.size W3 w') rfl (run_call_val (.tmp 22) #[.tmp 23, .tmp 24] #[70, 3] rfl rfl _ (by simp only [List.map_toArray, List.map_cons, List.map_nil]; rfl) hent) cC.out ?_ ?_)); first | go_skip | go_step)
     refine wpList_call_up W3.heap.size F (fun v => v = .agg #[.int .u64 (fnum : Int), .slice da dl dc, .slice none 0 0]) (fun w' => Below W3.heap.size W3 w') rfl (run_call_val (.tmp 22) #[.tmp 23, .tmp 24] #[70, 3] rfl rfl _ (by simp only [List.map_toArray, List.map_cons, List.map_nil]; rfl) hent) cC.out ?_ ?_
     · intro hF v_ w4 hv hb4
       subst hv
       subst hF
       have R4 := keep hb4 r2.out
       have hw4 := Below.after hb.out hb4
       have RF := hide (setRow_heap _ (w.heap.size + 1 + 1) _ #[.int .u64 (fnum : Int), .slice da dl dc, .slice none 0 0] _ _ R4)
       have hwF := hide (below_setRow (g := w.heap.size + 1 + 1) hw4 (by omega) #[.int .u64 (fnum : Int), .slice da dl dc, .slice none 0 0])
       clear r1 r0 r2 hb cC hb4 hw4 s4
       try simp only [Act.put, List.setIfInBounds_toArray, List.set_cons_succ, List.set_cons_zero]
       go_wp2_with (first | (refine wpList_store_row rfl 76 _ _ rfl (w.heap.size + 1 + 1) #[.int .u64 (fnum : Int), .slice da dl dc, .slice none 0 0] rfl rfl 76 _ R4 infoV rfl hone ?_) | fail)
       refine bodyPost_ret (v := .agg #[.int .u64 (fnum : Int), .slice da dl dc, .slice none 0 0]) (results_cell_row Tryz.results83 _ _ (w.heap.size + 1 + 1) _ _ _ _ rfl RF.out Tryz.underlying76 rfl infoV) rfl ⟨?_, hwF.out⟩
       rw [← eR.out]
       exact ⟨_, rfl, rfl⟩
     · intro x hF g w4 h1 h2 hb4
       subst hF
       have szw := hb.out.size
       have hw4 := Below.after hb.out hb4
       go_wp2_with (fail)
       rw [← eR.out]
       exact ⟨rfl, ⟨g, rfl, by omega, h2⟩, hw4⟩
   · have eR : R = some ⟨0, at_, 82⟩ := by rw [← hR, if_neg (by simp), if_pos hty]
     have hd : (fty == wt) = false := by simpa using hty
     replace eR := hide eR
     clear hR cC r0 r1 r2
     go_wp2_with (fail)
     refine (a_giveUp 0 at_ 82 _).mono ?_
     rintro e_ w2 ⟨hg, hb2⟩
     obtain ⟨g, rfl, hgl, hgr⟩ := hg
     have szw := hb.out.size
     have hw := Below.after hb.out hb2
     clear hb
     go_wp2
     rw [eR.out]
     exact ⟨rfl, ⟨g, rfl, Nat.le_trans szw hgl, hgr⟩, hw⟩
 · have eR : R = some ⟨0, at_, 81⟩ := by rw [← hR, if_pos hno]
   have hd : (fno == no) = false := by simpa using hno
   replace eR := hide eR
   clear hR cC r0 r1 r2
   go_wp2_with (fail)
   refine (a_giveUp 0 at_ 81 _).mono ?_
   rintro e_ w2 ⟨hg, hb2⟩
   obtain ⟨g, rfl, hgl, hgr⟩ := hg
   have szw := hb.out.size
   have hw := Below.after hb.out hb2
   clear hb
   go_wp2
   rw [eR.out]
   exact ⟨rfl, ⟨g, rfl, Nat.le_trans szw hgl, hgr⟩, hw⟩
end Go.Proofs.YtlbndkfllegacaaGreatDoor
namespace Go.Proofs.YtlbndkfllegacaaGreatDoor
set_option maxRecDepth 100000
open Go Go.RowKit Go.Sort
attribute [local go_sem] setCell_drewN alloc_drewN
section
variable {P : Program} {ops : Array Oper} {Q : Exit → Act → World → Prop} {md : Region.Mode} {S : World → Prop}
end
theorem a_sizeX (n : Nat) (hn : n < 18446744073709551616) (w : World) : Calls Tryz.prog 110 #[.int .u64 (n : Int)] w fun e w' => ∃ u, e = .returned u ∧ u = .int .i64 ((en n).length : Int) ∧ Below w.heap.size w w' := (a_size n hn w).mono fun _ _ h => ⟨_, h.1, rfl, h.2⟩
set_option maxRecDepth 100000 in
set_option maxHeartbeats 8000000 in
theorem a_endOf (f : Fd) (ao : Option Addr) (cap : Nat) (at_ : Int) (hat : 0 ≤ at_ ∧ at_ ≤ 4611686018427387904) (hf : Fok f) (h0 : 0 ≤ f.no) (h1 : f.no ≤ 536870911) (hk : known f.ty) (w : World) : Calls Tryz.prog 84 #[.agg #[.int .i64 f.no, .int .i64 f.ty, .int .u64 (f.num : Int), .slice ao f.dat.length cap], .int .i64 at_] w fun e w' => ∃ u, e = .returned u ∧ u = .int .i64 (at_ + ((fby f).length : Int)) ∧ Below w.heap.size w w' := by
 have ht := known_lt hk
 obtain ⟨N, hN⟩ := Int.eq_ofNat_of_zero_le h0
 obtain ⟨hf1, hf2, _, _⟩ := hf
 have hH : (en (fhd f)).length = (en (8 * N)).length := by
   have e : fhd f = 8 * N + f.ty.toNat := by unfold fhd; rw [hN]; rfl
   rw [e]
   exact en_head N _ (by omega)
 have cH := s_headOf N (by omega)
 have cS := a_size (8 * N) (by omega)
 have cN := a_size f.num hf1
 have cD := a_sizeX f.dat.length (by omega)
 have hten := en_ten (n := 8 * N) (by omega)
 have hten2 := en_ten hf1
 have hten3 := en_ten (n := f.dat.length) (by omega)
 have hl : (fby f).length = (en (8 * N)).length + (fvl f).length := by rw [fby, List.length_append, hH]
 have hvl : fvl f = if f.ty = 0 then en f.num else if f.ty = 1 then fx 8 f.num else if f.ty = 5 then fx 4 f.num else itm f.dat := rfl
 have hL0 : f.ty = 0 → (fby f).length = (en (8 * N)).length + (en f.num).length := fun t => by rw [hl, hvl, if_pos t]
 have hL1 : f.ty = 1 → (fby f).length = (en (8 * N)).length + 8 := fun t => by rw [hl, hvl, if_neg (by omega), if_pos t, fx_len]
 have hL5 : f.ty = 5 → (fby f).length = (en (8 * N)).length + 4 := fun t => by rw [hl, hvl, if_neg (by omega), if_neg (by omega), if_pos t, fx_len]
 have hL2 : f.ty = 2 → (fby f).length = (en (8 * N)).length + (en f.dat.length).length + f.dat.length := fun t => by rw [hl, hvl, if_neg (by omega), if_neg (by omega), if_neg (by omega), itm_len]; omega
 unfold known at hk
 generalize (fby f).length = L at *
 clear hvl hl hH
 generalize hfn : f.no = fno at *
 generalize f.ty = fty at *
 generalize f.num = num at *
 generalize f.dat.length = dl at *
 generalize (en (8 * N)).length = H at *
 generalize (en dl).length = DL at *
 generalize (en num).length = NL at *
 replace hN := hide hN
 clear hfn f
 have R0 := hp1_0 w (.cells #[.int .i64 fno, .int .i64 fty, .int .u64 (num : Int), .slice ao dl cap] 70)
 have hw : Below w.heap.size w (w.alloc (.cells #[.int .i64 fno, .int .i64 fty, .int .u64 (num : Int), .slice ao dl cap] 70)) := (Below.refl _ _).alloc (Nat.le_refl _) _
 go_enter Tryz.func84, Tryz.ntmps84
 go_upto_region 1 with (fail)
 generalize w.alloc (.cells #[.int .i64 fno, .int .i64 fty, .int .u64 (num : Int), .slice ao dl cap] 70) = w1 at *
 have c0 := cell_of_row _ _ 0 _ _ _ R0
 have cH1 := cH w1
 rw [← hN.out] at cH1
 replace cH1 := hide cH1
 clear cH
 go_wp2_with (fail)
 refine cH1.out.mono ?_
 rintro e_ w2 ⟨rfl, hb_⟩
 replace R0 := keep hb_ R0
 replace hw := Below.after hw hb_
 clear hb_ c0 cH1
 have cS2 := hide (cS w2)
 clear cS
 go_wp2_with (fail)
 refine cS2.out.mono ?_
 rintro e_ w3 ⟨rfl, hb_⟩
 replace R0 := keep hb_ R0
 replace hw := Below.after hw hb_
 clear hb_ cS2
 rcases hk with t | t | t | t
 · have e := hide (hL0 t)
   subst t
   have cN3 := hide (cN w3)
   have c1 := cell_of_row _ _ 1 _ _ _ R0
   have c2 := cell_of_row _ _ 2 _ _ _ R0
   clear hL0 hL1 hL2 hL5 cN cD
   go_wp2_with (fail)
   refine cN3.out.mono ?_
   rintro e_ w4 ⟨rfl, hb_⟩
   replace hw := Below.after hw hb_
   clear hb_ cN3
   go_wp2_with (fail)
   go_ret
   exact ⟨_, rfl, by rw [e.out]; go_num, hw⟩
 · have e := hide (hL1 t)
   subst t
   have c1 := cell_of_row _ _ 1 _ _ _ R0
   clear hL0 hL1 hL2 hL5 cN cD
   go_wp2_with (fail)
   go_ret
   exact ⟨_, rfl, by rw [e.out]; go_num, hw⟩
 · have e := hide (hL2 t)
   subst t
   have c1 := cell_of_row _ _ 1 _ _ _ R0
   clear hL0 hL1 hL2 hL5 cN
   go_upto_region 8 with (fail)
   clear c1
   have hbd : Below w3.heap.size w3 w3.drew := below_drN (Below.refl _ _) 1
   replace R0 := keep hbd R0
   replace hw := Below.after hw hbd
   clear hbd
   have q0 : IntKind.wrap .u64 (dl : Int) = (dl : Int) := by show (dl : Int) % 18446744073709551616 = dl; omega
   have q1 : IntKind.wrap .i64 (at_ + (H : Int) + (DL : Int)) = at_ + (H : Int) + (DL : Int) := by rw [IntKind.wrap_i64]; omega
   have q2 : IntKind.wrap .i64 (at_ + (H : Int) + (DL : Int) + (dl : Int)) = at_ + (H : Int) + (DL : Int) + (dl : Int) := by rw [IntKind.wrap_i64]; omega
   refine wp_region_noPanic ?_
   refine wp_region_held (S := fun W => W.heap[w.heap.size]? = some (.cells #[.int .i64 fno, .int .i64 2, .int .u64 (num : Int), .slice ao dl cap] 70 (0, 0))) (by kernel_rfl) ?_
   change wpAnyH _ _ _ _ _ _ _ _ (World.drew _)
   generalize w3.drew = y1 at *
   refine wpAnyH_take (i := 0) (v := ?v1) rfl (by kernel_rfl) (by kernel_rfl) (by kernel_rfl) (fun _ _ _ h => h) (Or.inl ⟨by rfl, ?y1⟩) R0 ?r1
   case y1 =>
     intro w_ hS_
     go_simp
     try with_reducible rfl
   simp only [Act.put, List.getElem_toArray, List.getElem_cons_zero, List.setIfInBounds_toArray, List.set_cons_succ, List.set_cons_zero]
   refine wpAnyH_take (i := 1) (v := ?v2) rfl (by kernel_rfl) (by kernel_rfl) (by kernel_rfl) (fun _ _ _ h => h) (Or.inl ⟨by rfl, ?y2⟩) R0 ?r2
   case y2 =>
     intro w_ hS_
     go_simp
     try with_reducible rfl
   simp only [Act.put, List.getElem_toArray, List.getElem_cons_succ, List.getElem_cons_zero, List.setIfInBounds_toArray, List.set_cons_succ, List.set_cons_zero]
   refine wpAnyH_take (i := 2) (v := .slice ao dl cap) rfl (by kernel_rfl) (by kernel_rfl) (by kernel_rfl) (fun _ _ _ h => h) (Or.inl ⟨by rfl, ?y3⟩) R0 ?r3
   case y3 =>
     intro w_ hS_
     have c_ := cell_of_row _ _ 3 _ _ _ hS_
     go_simp
     try with_reducible rfl
   simp only [Act.put, List.getElem_toArray, List.getElem_cons_succ, List.getElem_cons_zero, List.setIfInBounds_toArray, List.set_cons_succ, List.set_cons_zero]
   refine wpAnyH_take (i := 3) (v := ?v4) rfl (by kernel_rfl) (by kernel_rfl) (by kernel_rfl) (fun _ _ _ h => h) (Or.inl ⟨by rfl, ?y4⟩) R0 ?r4
   case y4 =>
     intro w_ hS_
     go_simp
     try with_reducible rfl
   simp only [Act.put, List.getElem_toArray, List.getElem_cons_succ, List.getElem_cons_zero, List.setIfInBounds_toArray, List.set_cons_succ, List.set_cons_zero]
   refine wpAnyH_take (i := 4) (v := .int .u64 (dl : Int)) rfl (by kernel_rfl) (by kernel_rfl) (by kernel_rfl) (fun _ _ _ h => h) (Or.inl ⟨by rfl, ?y5⟩) R0 ?r5
   case y5 =>
     intro w_ hS_
     go_simp
     try with_reducible rfl
   simp only [Act.put, List.getElem_toArray, List.getElem_cons_succ, List.getElem_cons_zero, List.setIfInBounds_toArray, List.set_cons_succ, List.set_cons_zero]
   refine wpAnyH_take (i := 7) (v := ?v6) rfl (by kernel_rfl) (by kernel_rfl) (by kernel_rfl) (fun _ _ _ h => h) (Or.inl ⟨by rfl, ?y6⟩) R0 ?r6
   case y6 =>
     intro w_ hS_
     go_simp
     try with_reducible rfl
   simp only [Act.put, List.getElem_toArray, List.getElem_cons_succ, List.getElem_cons_zero, List.setIfInBounds_toArray, List.set_cons_succ, List.set_cons_zero]
   refine wpAnyH_take (i := 8) (v := .slice ao dl cap) rfl (by kernel_rfl) (by kernel_rfl) (by kernel_rfl) (fun _ _ _ h => h) (Or.inl ⟨by rfl, ?y7⟩) R0 ?r7
   case y7 =>
     intro w_ hS_
     have c_ := cell_of_row _ _ 3 _ _ _ hS_
     go_simp
     try with_reducible rfl
   simp only [Act.put, List.getElem_toArray, List.getElem_cons_succ, List.getElem_cons_zero, List.setIfInBounds_toArray, List.set_cons_succ, List.set_cons_zero]
   refine wpAnyH_take (i := 9) (v := ?v8) rfl (by kernel_rfl) (by kernel_rfl) (by kernel_rfl) (fun _ _ _ h => h) (Or.inl ⟨by rfl, ?y8⟩) R0 ?r8
   case y8 =>
     intro w_ hS_
     go_simp
     try with_reducible rfl
   simp only [Act.put, List.getElem_toArray, List.getElem_cons_succ, List.getElem_cons_zero, List.setIfInBounds_toArray, List.set_cons_succ, List.set_cons_zero]
   refine wpAnyH_one (k := 5) (fuel := 3) (by kernel_rfl) rfl (by kernel_rfl) (fun K_ hK => ?_)
   refine wp_call_ex (f := 110) (by kernel_rfl) (cD y1) (fun v_ y2 hX_ => ?_)
   obtain ⟨rfl, hb_⟩ := hX_
   replace R0 := keep hb_ R0
   replace hw := Below.after hw hb_
   clear hb_
   refine hK _ _ R0 ?_
   simp only [Act.put, List.getElem_toArray, List.getElem_cons_succ, List.getElem_cons_zero, List.setIfInBounds_toArray, List.set_cons_succ, List.set_cons_zero]
   clear hK
   refine wpAnyH_take (i := 6) (v := .int .i64 (at_ + (H : Int) + (DL : Int))) rfl (by kernel_rfl) (by kernel_rfl) (by kernel_rfl) (fun _ _ _ h => h) (Or.inl ⟨by rfl, ?y9⟩) R0 ?r9
   case y9 =>
     intro w_ hS_
     go_simp
     try with_reducible rfl
   simp only [Act.put, List.getElem_toArray, List.getElem_cons_succ, List.getElem_cons_zero, List.setIfInBounds_toArray, List.set_cons_succ, List.set_cons_zero]
   refine wpAnyH_take (i := 10) (v := .int .i64 (at_ + (H : Int) + (DL : Int) + (dl : Int))) rfl (by kernel_rfl) (by kernel_rfl) (by kernel_rfl) (fun _ _ _ h => h) (Or.inl ⟨by rfl, ?y10⟩) R0 ?r10
   case y10 =>
     intro w_ hS_
     go_simp
     try with_reducible rfl
   simp only [Act.put, List.getElem_toArray, List.getElem_cons_succ, List.getElem_cons_zero, List.setIfInBounds_toArray, List.set_cons_succ, List.set_cons_zero]
   refine wpAnyH_take (i := 11) (v := ?v11) rfl (by kernel_rfl) (by kernel_rfl) (by kernel_rfl) (fun _ _ _ h => h) (Or.inl ⟨by rfl, ?y11⟩) R0 ?r11
   case y11 =>
     intro w_ hS_
     go_simp
     try with_reducible rfl
   simp only [Act.put, List.getElem_toArray, List.getElem_cons_succ, List.getElem_cons_zero, List.setIfInBounds_toArray, List.set_cons_succ, List.set_cons_zero]
   refine wpAnyH_done (by kernel_rfl) ?_ _
   refine NoPanic.normal ?_
   go_wp2_with (fail)
   go_ret
   exact ⟨_, rfl, by rw [e.out]; show Value.int .i64 (at_ + (H : Int) + (DL : Int) + (dl : Int)) = _; congr 1; omega, hw⟩
 · have e := hide (hL5 t)
   subst t
   have c1 := cell_of_row _ _ 1 _ _ _ R0
   clear hL0 hL1 hL2 hL5 cN cD
   go_wp2_with (fail)
   go_ret
   exact ⟨_, rfl, by rw [e.out]; go_num, hw⟩
end Go.Proofs.YtlbndkfllegacaaGreatDoor
namespace Go.Proofs.YtlbndkfllegacaaGreatDoor
set_option maxRecDepth 100000
open Go Go.RowKit Go.Sort
/-! What is cut short. -/
end Go.Proofs.YtlbndkfllegacaaGreatDoor
namespace Go.Proofs.YtlbndkfllegacaaGreatDoor
set_option maxRecDepth 100000
open Go Go.RowKit Go.Sort
/-! Parts of a list of fields. -/
theorem gf_take (fs : List Fd) (k i : Nat) (h : i < k) : gf (fs.take k) i = gf fs i := by
 rw [gf, gf, List.getD_eq_getElem?_getD, List.getD_eq_getElem?_getD, List.getElem?_take_of_lt h]
theorem Fds.take {W : World} {ao : Option Addr} {cap l : Nat} {fs : List Fd} (h : Fds W (.slice ao l cap) fs) (k : Nat) (hk : k ≤ fs.length) : Fds W (.slice ao k cap) (fs.take k) := by
 obtain ⟨ao', cap', e, h1, h2, h3, h4⟩ := h
 cases e
 have hl : (fs.take k).length = k := by rw [List.length_take, Nat.min_eq_left hk]
 refine ⟨ao, cap, by rw [hl], by omega, by omega, h3, fun i hi => ?_⟩
 rw [hl] at hi
 rw [gf_take fs k i hi]
 exact h4 i (by omega)
theorem eer_ok {fs : List Fd} : eer fs = 0 ↔ fs.length ≤ 64 ∧ ech fs 0 = 0 ∧ (ebs fs).length ≤ 4194304 := by
 unfold eer
 by_cases h1 : 64 < fs.length
 · rw [if_pos h1]
   constructor
   · intro h; cases h
   · intro h; omega
 rw [if_neg h1]
 by_cases h2 : ech fs 0 = 0
 · rw [if_neg (by rw [h2]; simp)]
   by_cases h3 : 4194304 < (ebs fs).length
   · rw [if_pos h3]
     constructor
     · intro h; cases h
     · intro h; omega
   · rw [if_neg h3]
     exact ⟨fun _ => ⟨by omega, h2, by omega⟩, fun _ => rfl⟩
 · rw [if_pos h2]
   exact ⟨fun h => absurd h h2, fun h => absurd h.2.1 h2⟩
theorem ebs_split (fs : List Fd) (c : Nat) : ebs fs = ebs (fs.take c) ++ ebs (fs.drop c) := by
 rw [← ebs_app, List.take_append_drop]
end Go.Proofs.YtlbndkfllegacaaGreatDoor

