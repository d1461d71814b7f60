import Derived.Test.YtleeadbceljfbaaGreatDoorJra
import Derived.Test.YtleeadbceljfbaaGreatDoorQb1
import Derived.OwnWalk
import Derived.Deep.Cut
import Derived.Deep.RegionHeld3
namespace Go.Proofs.YtleeadbceljfbaaGreatDoor
set_option maxRecDepth 100000
open Go Go.RowKit Go.Sort
attribute [local go_sem] setCell_drewN alloc_drewN
set_option maxRecDepth 100000 in
set_option maxHeartbeats 8000000 in
theorem a_plain3 (k : FuncId) (hk : k = 97 ∨ k = 99 ∨ k = 101) (n : Nat) (no ty : Int) (da : Option Addr) (dl dc : Nat) (at_ E : Int) (g2 gs : Nat) (w : World) (h2 : Bx w g2 #[.func (.func k) #[] #[ptr gs]])
    (hF : ∀ V, Below w.heap.size w V → Calls Tryz.prog k #[.agg (vrw n (.slice da dl dc) (.slice none 0 0)), ptr gs] V fun e w' => e = .returned (.int .i64 E) ∧ Below V.heap.size V w') :
    Calls Tryz.prog 108 #[.agg #[.int .i64 no, .int .i64 ty, .int .u64 (n : Int), .slice da dl dc], .int .i64 at_, ptr g2] w fun e w' => Gup w.heap.size (rdE at_ E) e w' (fun v => v = .agg (vrw n (.slice da dl dc) (.slice none 0 0))) ∧ Below w.heap.size w w' := by
  obtain ⟨T2, h2⟩ := h2
  have l2 := lt_of_row h2
  have r1 := hp3_1 w (.cells #[.int .i64 no, .int .i64 ty, .int .u64 (n : Int), .slice da dl dc] 60) (.cells #[.int .u64 0, .slice none 0 0, .slice none 0 0] 80) (.cells #[.int .u64 0, .slice none 0 0, .slice none 0 0] 80)
  have r2 := hp3_2 w (.cells #[.int .i64 no, .int .i64 ty, .int .u64 (n : Int), .slice da dl dc] 60) (.cells #[.int .u64 0, .slice none 0 0, .slice none 0 0] 80) (.cells #[.int .u64 0, .slice none 0 0, .slice none 0 0] 80)
  have hb0 : Below w.heap.size w (((w.alloc (.cells #[.int .i64 no, .int .i64 ty, .int .u64 (n : Int), .slice da dl dc] 60)).alloc (.cells #[.int .u64 0, .slice none 0 0, .slice none 0 0] 80)).alloc (.cells #[.int .u64 0, .slice none 0 0, .slice none 0 0] 80)) := (((Below.refl _ _).alloc (Nat.le_refl _) _).alloc (by simp) _).alloc (by simp; omega) _
  have hb := below_setRow (g := w.heap.size + 1 + 1) hb0 (by omega) #[.int .u64 (n : Int), .slice da dl dc, .slice none 0 0]
  have RV := setRow_heap _ (w.heap.size + 1 + 1) _ #[.int .u64 (n : Int), .slice da dl dc, .slice none 0 0] _ _ r2
  have R1 := (setRow_other (((w.alloc (.cells #[.int .i64 no, .int .i64 ty, .int .u64 (n : Int), .slice da dl dc] 60)).alloc (.cells #[.int .u64 0, .slice none 0 0, .slice none 0 0] 80)).alloc (.cells #[.int .u64 0, .slice none 0 0, .slice none 0 0] 80)) (w.heap.size + 1 + 1) (w.heap.size + 1) #[.int .u64 (n : Int), .slice da dl dc, .slice none 0 0] (by omega)).trans r1
  have a1 : ¬ w.heap.size = g2 := by omega
  have a2 : ¬ g2 = w.heap.size := by omega
  have a3 : ¬ w.heap.size + 1 = g2 := by omega
  have a4 : ¬ g2 = w.heap.size + 1 := by omega
  have a5 : ¬ w.heap.size + 1 + 1 = g2 := by omega
  have a6 : ¬ g2 = w.heap.size + 1 + 1 := by omega
  have hone : (#[.int .u64 (n : Int), .slice da dl dc, .slice none 0 0] : Array Value).all (·.oneCell') = true := by simp [Value.oneCell']
  have c2 : ((((w.alloc (.cells #[.int .i64 no, .int .i64 ty, .int .u64 (n : Int), .slice da dl dc] 60)).alloc (.cells #[.int .u64 0, .slice none 0 0, .slice none 0 0] 80)).alloc (.cells #[.int .u64 0, .slice none 0 0, .slice none 0 0] 80)).setRow (w.heap.size + 1 + 1) #[.int .u64 (n : Int), .slice da dl dc, .slice none 0 0]).cell? ⟨g2, 0, none⟩ = some (.func (.func k) #[] #[ptr gs]) := (hb.cell (p := ⟨g2, 0, none⟩) l2).trans (by rw [cell_of_row _ _ _ _ _ _ h2]; rfl)
  have cF := hF _ hb
  have cE := a_giveUp 0 at_ E
  obtain ⟨R, hR⟩ : ∃ R, rdE at_ E = R := ⟨_, rfl⟩
  rw [hR]
  unfold vrw at cF ⊢
  unfold ptr at *
  replace hb := hide hb
  replace RV := hide RV
  replace R1 := hide R1
  replace cF := hide cF
  replace c2 := hide c2
  clear hF h2 hb0 r1
  go_enter Tryz.func108, Tryz.ntmps108
  go_wp2_with (first | (refine wpList_store_row rfl 80 _ _ rfl (w.heap.size + 1 + 1) #[.int .u64 (n : Int), .slice da dl dc, .slice none 0 0] rfl rfl 80 _ r2 infoV rfl hone ?_; refine wpList_stay ?_) | fail)
  unfold WpStay
  clear r2
  generalize (((w.alloc (.cells #[.int .i64 no, .int .i64 ty, .int .u64 (n : Int), .slice da dl dc] 60)).alloc (.cells #[.int .u64 0, .slice none 0 0, .slice none 0 0] 80)).alloc (.cells #[.int .u64 0, .slice none 0 0, .slice none 0 0] 80)).setRow (w.heap.size + 1 + 1) #[.int .u64 (n : Int), .slice da dl dc, .slice none 0 0] = W4 at *
  have RW := RV.out
  have c2' := c2.out
  clear RV c2
  rcases hk with rfl | rfl | rfl
  all_goals
    go_wp2_with (first | (refine wpList_load_want rfl 80 _ rfl (w.heap.size + 1 + 1) rfl 80 #[.int .u64 (n : Int), .slice da dl dc, .slice none 0 0] (0, 0) _ RW Tryz.underlying80 rfl infoV ?_) | fail)
    refine cF.out.mono ?_
    rintro e_ w1 ⟨rfl, hb1⟩
    have R11 := keep hb1 R1.out
    have RW1 := keep hb1 RW
    have hw := Below.after hb.out hb1
    clear cF hb hb1 R1 RW c2'
    rcases hE : (E == 0)
    · have hE2 : ¬ E = 0 := by simpa using hE
      have eR : R = some ⟨0, at_, E⟩ := by rw [← hR, rdE, if_neg hE2]
      replace eR := hide eR
      clear hR
      go_wp2_with (fail)
      refine (cE _).mono ?_
      rintro e_ w2 ⟨hg, hb2⟩
      obtain ⟨g, rfl, hgl, hgr⟩ := hg
      have szw := hw.size
      replace hw := Below.after hw hb2
      go_wp2
      rw [eR.out]
      exact ⟨rfl, ⟨g, rfl, Nat.le_trans szw hgl, hgr⟩, hw⟩
    · obtain rfl : E = 0 := by simpa using hE
      have eR : R = none := by rw [← hR, rdE, if_pos rfl]
      replace eR := hide eR
      clear hR cE
      have RF := setRow_heap _ (w.heap.size + 1) _ #[.int .u64 (n : Int), .slice da dl dc, .slice none 0 0] _ _ R11
      have hwF := below_setRow (g := w.heap.size + 1) hw (by omega) #[.int .u64 (n : Int), .slice da dl dc, .slice none 0 0]
      replace RF := hide RF
      replace hwF := hide hwF
      go_wp2_with (first | (refine wpList_load_want rfl 80 _ rfl (w.heap.size + 1 + 1) rfl 80 #[.int .u64 (n : Int), .slice da dl dc, .slice none 0 0] (0, 0) _ RW1 Tryz.underlying80 rfl infoV ?_) | (refine wpList_store_row rfl 80 _ _ rfl (w.heap.size + 1) #[.int .u64 (n : Int), .slice da dl dc, .slice none 0 0] rfl rfl 80 _ R11 infoV rfl hone ?_) | fail)
      refine bodyPost_ret (v := .agg #[.int .u64 (n : Int), .slice da dl dc, .slice none 0 0]) (results_cell_row Tryz.results108 _ _ (w.heap.size + 1) _ _ _ _ rfl RF.out Tryz.underlying80 rfl infoV) rfl ⟨?_, hwF.out⟩
      rw [eR.out]
      exact ⟨_, rfl, rfl⟩
theorem ent_plain3 (args : Array Value) (W : World) : (callFunc 108 args).run Tryz.prog W = .ok (.enter 108 args) W := by kernel_rfl
/-- A call in an ordered region that comes back or gives up. -/
theorem wpList_call_up {P : Program} {ops : Array Oper} {rest : List Oper} {o : Oper} {a : Act} {w : World} {Q : Exit → Act → World → Prop} {f : FuncId} {args : Array Value} (base : Nat) (F : Option Flt3) (R : Value → Prop) (B : World → Prop) (hgd : o.guard = none) (hx : (execOp a.eval o).run P w = .ok (.enter f args) w)
    (c : Calls P f args w fun e w' => Gup base F e w' R ∧ B w') (h : F = none → ∀ v w', R v → B w' → wpList P ops Q rest (a.put o.dst v) w')
    (hp : ∀ x, F = some x → ∀ g w', base ≤ g → w'.heap[g]? = some (.cells (frw x) 65 (0, 0)) → B w' → Q (.panic [{ v := .iface 83 (.pointer (some ⟨g, 0, none⟩)), recovered := false }]) a w') : wpList P ops Q (o :: rest) a w :=
  wpList_plain hgd fun _ hK => wp_call_up hx c (fun hF v w' hR hB => hK _ _ (h hF v w' hR hB)) hp
theorem a_slotRead {W : World} {S : Nat → Prop} {t : Slt} {u : Value} {row : Array Value} (h : SlC W S t u row) (hf : Fla t) : ∃ wt k1 k2 k3 a1 a2 a3, row = rdv t.no wt k1 k2 k3 a1 a2 a3 ∧ wt = wtK t ∧ (∀ args W, (callFunc k3 args).run Tryz.prog W = .ok (.enter k3 args) W) ∧
    ∀ (f : Fd) (da : Option Addr) (dl dc : Nat) (at_ : Int) (w : World), dl = f.dat.length → dl < 9223372036854775808 → Below W.heap.size W w → Calls Tryz.prog k3 (#[.agg #[.int .i64 f.no, .int .i64 f.ty, .int .u64 (f.num : Int), .slice da dl dc], .int .i64 at_] ++ a3) w fun e w' => Gup w.heap.size (rdE at_ (ftF t f)) e w' (fun v => v = .agg (vrw f.num (.slice da dl dc) (.slice none 0 0))) ∧ Below w.heap.size w w' := by
  have num : ∀ (wt l m : Int), PlC W S t.no wt 97 #[.int .i64 wt, .int .u64 l, .int .u64 m] row → wtK t = wt → (∀ f : Fd, ftF t f = wth (f.num : Int) l m) → ∃ wt k1 k2 k3 a1 a2 a3, row = rdv t.no wt k1 k2 k3 a1 a2 a3 ∧ wt = wtK t ∧ (∀ args W, (callFunc k3 args).run Tryz.prog W = .ok (.enter k3 args) W) ∧
    ∀ (f : Fd) (da : Option Addr) (dl dc : Nat) (at_ : Int) (w : World), dl = f.dat.length → dl < 9223372036854775808 → Below W.heap.size W w → Calls Tryz.prog k3 (#[.agg #[.int .i64 f.no, .int .i64 f.ty, .int .u64 (f.num : Int), .slice da dl dc], .int .i64 at_] ++ a3) w fun e w' => Gup w.heap.size (rdE at_ (ftF t f)) e w' (fun v => v = .agg (vrw f.num (.slice da dl dc) (.slice none 0 0))) ∧ Below w.heap.size w w' := by
    intro wt l m ⟨g0, g1, g2, g4, gs, e, h0, h1, h2, h4, h5⟩ hwt hE
    refine ⟨wt, _, _, _, _, _, _, e, hwt.symm, ent_plain3, fun f da dl dc at_ w hdl hx hb => ?_⟩
    rw [hE f]
    exact a_plain3 _ (.inl rfl) f.num f.no f.ty da dl dc at_ _ g2 gs w (h2.2.keep hb) (fun V hV => a_fitNum f.num da dl dc none 0 0 wt l m gs V (h5.2.keep (Below.after hb hV)))
  rcases h with ⟨hk, h⟩ | ⟨hk, h⟩ | ⟨hk, h⟩ | ⟨hk, h⟩ | ⟨hk, h⟩ | ⟨hk, h⟩ | ⟨hk, h⟩ | ⟨hk, h⟩
  · exact num 0 _ _ h (by unfold wtK; rw [if_neg (by omega), if_neg (by omega), if_neg (by omega)]) (fun f => by unfold ftF; rw [if_neg (by omega), if_neg (by omega)])
  · exact num 5 _ _ h (by unfold wtK; rw [if_pos hk]) (fun f => by unfold ftF; rw [if_neg (by omega), if_neg (by omega)])
  · exact num 1 _ _ h (by unfold wtK; rw [if_neg (by omega), if_pos hk]) (fun f => by unfold ftF; rw [if_neg (by omega), if_neg (by omega)])
  · exact num 0 _ _ h (by unfold wtK; rw [if_neg (by omega), if_neg (by omega), if_neg (by omega)]) (fun f => by unfold ftF; rw [if_neg (by omega), if_pos hk])
  · have hk5 : t.kind = 5 := by rcases hk with q | q; exact q; rcases hf with q2 | q2 | q2 | q2 | q2 <;> omega
    obtain ⟨g0, g1, g2, g4, gs, e, h0, h1, h2, h4, h5⟩ := h
    refine ⟨2, _, _, _, _, _, _, e, by unfold wtK; rw [if_neg (by omega), if_neg (by omega), if_pos hk5], ent_plain3, fun f da dl dc at_ w hdl hx hb => ?_⟩
    have he : ftF t f = wth (dl : Int) (t.least : Int) (t.most : Int) := by unfold ftF; rw [if_pos hk5, hdl]
    rw [he]
    rw [show (t.kind == 6) = false by rw [hk5]; rfl] at h5
    exact a_plain3 _ (.inr (.inr rfl)) f.num f.no f.ty da dl dc at_ _ g2 gs w (h2.2.keep hb) (fun V hV => a_fitOct f.num da dl dc none 0 0 _ _ hx gs V (h5.2.keep (Below.after hb hV)))
  · exfalso; rcases hf with q2 | q2 | q2 | q2 | q2 <;> omega
  · exfalso; rcases hf with q2 | q2 | q2 | q2 | q2 <;> omega
  · exfalso; rcases hf with q2 | q2 | q2 | q2 | q2 <;> omega
set_option maxRecDepth 100000 in
set_option maxHeartbeats 8000000 in
theorem a_slotDecode (no wt : Int) (k1 k2 k3 : FuncId) (a1 a2 a3 : Array Value) (fno fty : Int) (fnum : Nat) (da : Option Addr) (dl dc : Nat) (at_ : Int) (F : Option Flt3) (w : World)
    (hent : ∀ args W, (callFunc k3 args).run Tryz.prog W = .ok (.enter k3 args) W)
    (hC : ∀ V, Below w.heap.size w V → Calls Tryz.prog k3 (#[.agg #[.int .i64 fno, .int .i64 fty, .int .u64 (fnum : Int), .slice da dl dc], .int .i64 at_] ++ a3) V fun e w' => Gup V.heap.size F e w' (fun v => v = .agg (vrw fnum (.slice da dl dc) (.slice none 0 0))) ∧ Below V.heap.size V w') :
    Calls Tryz.prog 70 #[.agg #[.int .i64 no, .int .i64 wt, .func (.func k1) #[] a1, .func (.func k2) #[] a2, .func (.func k3) #[] a3], .agg #[.int .i64 fno, .int .i64 fty, .int .u64 (fnum : Int), .slice da dl dc], .int .i64 at_] w fun e w' => Gup w.heap.size (if fno ≠ no then some ⟨0, at_, 81⟩ else if fty ≠ wt then some ⟨0, at_, 82⟩ else F) e w' (fun v => v = .agg (vrw fnum (.slice da dl dc) (.slice none 0 0))) ∧ Below w.heap.size w w' := by
  have r0 := hp3_0 w (.cells #[.int .i64 no, .int .i64 wt, .func (.func k1) #[] a1, .func (.func k2) #[] a2, .func (.func k3) #[] a3] 135) (.cells #[.int .i64 fno, .int .i64 fty, .int .u64 (fnum : Int), .slice da dl dc] 60) (.cells #[.int .u64 0, .slice none 0 0, .slice none 0 0] 80)
  have r1 := hp3_1 w (.cells #[.int .i64 no, .int .i64 wt, .func (.func k1) #[] a1, .func (.func k2) #[] a2, .func (.func k3) #[] a3] 135) (.cells #[.int .i64 fno, .int .i64 fty, .int .u64 (fnum : Int), .slice da dl dc] 60) (.cells #[.int .u64 0, .slice none 0 0, .slice none 0 0] 80)
  have r2 := hp3_2 w (.cells #[.int .i64 no, .int .i64 wt, .func (.func k1) #[] a1, .func (.func k2) #[] a2, .func (.func k3) #[] a3] 135) (.cells #[.int .i64 fno, .int .i64 fty, .int .u64 (fnum : Int), .slice da dl dc] 60) (.cells #[.int .u64 0, .slice none 0 0, .slice none 0 0] 80)
  have hb : Below w.heap.size w (((w.alloc (.cells #[.int .i64 no, .int .i64 wt, .func (.func k1) #[] a1, .func (.func k2) #[] a2, .func (.func k3) #[] a3] 135)).alloc (.cells #[.int .i64 fno, .int .i64 fty, .int .u64 (fnum : Int), .slice da dl dc] 60)).alloc (.cells #[.int .u64 0, .slice none 0 0, .slice none 0 0] 80)) := (((Below.refl _ _).alloc (Nat.le_refl _) _).alloc (by simp) _).alloc (by simp; omega) _
  obtain ⟨R, hR⟩ : ∃ R, (if fno ≠ no then some ⟨0, at_, 81⟩ else if fty ≠ wt then some ⟨0, at_, 82⟩ else F) = R := ⟨_, rfl⟩
  rw [hR]
  have cC := hC _ hb
  unfold vrw at cC ⊢
  replace hb := hide hb
  replace cC := hide cC
  clear hC
  have hone : (#[.int .u64 (fnum : Int), .slice da dl dc, .slice none 0 0] : Array Value).all (·.oneCell') = true := by simp [Value.oneCell']
  go_enter Tryz.func70, Tryz.ntmps70
  go_upto_region 1 with (fail)
  generalize (((w.alloc (.cells #[.int .i64 no, .int .i64 wt, .func (.func k1) #[] a1, .func (.func k2) #[] a2, .func (.func k3) #[] a3] 135)).alloc (.cells #[.int .i64 fno, .int .i64 fty, .int .u64 (fnum : Int), .slice da dl dc] 60)).alloc (.cells #[.int .u64 0, .slice none 0 0, .slice none 0 0] 80)) = W3 at *
  have s0 := cell_of_row _ _ 0 _ _ _ r0
  have s1 := cell_of_row _ _ 1 _ _ _ r0
  have s4 := cell_of_row _ _ 4 _ _ _ r0
  have f0 := cell_of_row _ _ 0 _ _ _ r1
  have f1 := cell_of_row _ _ 1 _ _ _ r1
  by_cases hno : fno = no
  · subst hno
    by_cases hty : fty = wt
    · subst hty
      have eR : F = R := by rw [← hR, if_neg (by simp), if_neg (by simp)]
      replace eR := hide eR
      clear hR
      replace r2 := hide r2
      go_upto_region 5 with (fail)
      clear s0 s1 f0 f1
      repeat ((fail_if_success (refine wpList_load_want rfl 60 _ rfl (w.heap.size + 1) rfl 60 #[.int .i64 fno, .int .i64 fty, .int .u64 (fnum : Int), .slice da dl dc] (0, 0) _ r1 Tryz.underlying60 rfl infoFi ?_)); first | go_skip | go_step)
      refine wpList_load_want rfl 60 _ rfl (w.heap.size + 1) rfl 60 #[.int .i64 fno, .int .i64 fty, .int .u64 (fnum : Int), .slice da dl dc] (0, 0) _ r1 Tryz.underlying60 rfl infoFi ?_
      try simp only [Act.put, List.setIfInBounds_toArray, List.set_cons_succ, List.set_cons_zero]
      repeat ((fail_if_success (refine wpList_call_up W3.heap.size F (fun v => v = .agg #[.int .u64 (fnum : Int), .slice da dl dc, .slice none 0 0]) (fun w' => Below W3.heap.size W3 w') rfl (run_call_val (.tmp 22) #[.tmp 23, .tmp 24] #[60, 3] rfl rfl _ (by simp only [List.map_toArray, List.map_cons, List.map_nil]; rfl) hent) cC.out ?_ ?_)); first | go_skip | go_step)
      refine wpList_call_up W3.heap.size F (fun v => v = .agg #[.int .u64 (fnum : Int), .slice da dl dc, .slice none 0 0]) (fun w' => Below W3.heap.size W3 w') rfl (run_call_val (.tmp 22) #[.tmp 23, .tmp 24] #[60, 3] rfl rfl _ (by simp only [List.map_toArray, List.map_cons, List.map_nil]; rfl) hent) cC.out ?_ ?_
      · intro hF v_ w4 hv hb4
        subst hv
        subst hF
        have R4 := keep hb4 r2.out
        have hw4 := Below.after hb.out hb4
        have RF := hide (setRow_heap _ (w.heap.size + 1 + 1) _ #[.int .u64 (fnum : Int), .slice da dl dc, .slice none 0 0] _ _ R4)
        have hwF := hide (below_setRow (g := w.heap.size + 1 + 1) hw4 (by omega) #[.int .u64 (fnum : Int), .slice da dl dc, .slice none 0 0])
        clear r1 r0 r2 hb cC hb4 hw4 s4
        try simp only [Act.put, List.setIfInBounds_toArray, List.set_cons_succ, List.set_cons_zero]
        go_wp2_with (first | (refine wpList_store_row rfl 80 _ _ rfl (w.heap.size + 1 + 1) #[.int .u64 (fnum : Int), .slice da dl dc, .slice none 0 0] rfl rfl 80 _ R4 infoV rfl hone ?_) | fail)
        refine bodyPost_ret (v := .agg #[.int .u64 (fnum : Int), .slice da dl dc, .slice none 0 0]) (results_cell_row Tryz.results70 _ _ (w.heap.size + 1 + 1) _ _ _ _ rfl RF.out Tryz.underlying80 rfl infoV) rfl ⟨?_, hwF.out⟩
        rw [← eR.out]
        exact ⟨_, rfl, rfl⟩
      · intro x hF g w4 h1 h2 hb4
        subst hF
        have szw := hb.out.size
        have hw4 := Below.after hb.out hb4
        go_wp2_with (fail)
        rw [← eR.out]
        exact ⟨rfl, ⟨g, rfl, by omega, h2⟩, hw4⟩
    · have eR : R = some ⟨0, at_, 82⟩ := by rw [← hR, if_neg (by simp), if_pos hty]
      have hd : (fty == wt) = false := by simpa using hty
      replace eR := hide eR
      clear hR cC r0 r1 r2
      go_wp2_with (fail)
      refine (a_giveUp 0 at_ 82 _).mono ?_
      rintro e_ w2 ⟨hg, hb2⟩
      obtain ⟨g, rfl, hgl, hgr⟩ := hg
      have szw := hb.out.size
      have hw := Below.after hb.out hb2
      clear hb
      go_wp2
      rw [eR.out]
      exact ⟨rfl, ⟨g, rfl, Nat.le_trans szw hgl, hgr⟩, hw⟩
  · have eR : R = some ⟨0, at_, 81⟩ := by rw [← hR, if_pos hno]
    have hd : (fno == no) = false := by simpa using hno
    replace eR := hide eR
    clear hR cC r0 r1 r2
    go_wp2_with (fail)
    refine (a_giveUp 0 at_ 81 _).mono ?_
    rintro e_ w2 ⟨hg, hb2⟩
    obtain ⟨g, rfl, hgl, hgr⟩ := hg
    have szw := hb.out.size
    have hw := Below.after hb.out hb2
    clear hb
    go_wp2
    rw [eR.out]
    exact ⟨rfl, ⟨g, rfl, Nat.le_trans szw hgl, hgr⟩, hw⟩
end Go.Proofs.YtleeadbceljfbaaGreatDoor
