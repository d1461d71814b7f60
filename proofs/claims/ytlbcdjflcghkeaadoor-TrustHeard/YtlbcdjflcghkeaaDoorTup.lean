import Derived.Test.YtlbcdjflcghkeaaDoorProg
import Derived.WalkKit
import Derived.WalkSpells
import Derived.WalkLawsBesides
import Derived.Lib.QuietBelow
import Derived.BigQuiet
import Derived.OrdersHeld
import Derived.OwnWalk
import Derived.Deep.RegionHeld3
import Derived.Deep.Cut
import Derived.Deep.CutRange
import Derived.Deep.CutBlock
import Derived.Test.YtlbcdjflcghkeaaDoorTun
import Derived.Test.YtlbcdjflcghkeaaDoorAhh
namespace Go.Proofs.YtlbcdjflcghkeaaDoor
set_option maxRecDepth 100000
open Go Go.RowKit Go.Sort
attribute [local go_sem] setCell_drewN alloc_drewN
theorem ba_dec (a b : ByteArray) : (a.toList == b.toList) = decide (a = b) := by
  by_cases h : a = b
  · subst h; simp
  · rw [decide_eq_false h, beq_eq_false_iff_ne]
    intro e
    rw [ByteArray.toList_eq, ByteArray.toList_eq] at e
    exact h (Go.WideShapes.bytes_inj e)
/-- The number of two keys. -/
def nbr2 (p q : List Int) : ByteArray := saf p q 100
theorem a_safety (p q : List Int) (hp : K32 p) (hq : K32 q) (w : World) (hSt : Sta w) (hKo : Kon w) (hPo : Pow w) : Calls Tryd.prog 24 #[.agg (irow .u8 p), .agg (irow .u8 q), .int .i64 100] w fun e w' => e = .returned (.tuple #[.string (nbr2 p q), .int .i64 0]) ∧ Below w.heap.size w w' := by
  refine (a_Safety p q hp hq 100 (by decide) (by decide) w hSt hKo hPo).mono ?_
  rintro e_ w_ ⟨v, rfl, rfl, h⟩
  exact ⟨rfl, h⟩
def coR (y : List Int) (es : List Ev) (cs : List Ct) (m nr : ByteArray) : Int × Option Ev := if (fnC cs m).s = 0 then (220, none) else if (fnC cs m).s = 4 then (222, none) else if nr = nbr2 y (lat (fnC cs m)) then rm es ⟨4, m, lat (fnC cs m)⟩ 0 else (221, none)
set_option maxRecDepth 100000 in
set_option maxHeartbeats 8000000 in
theorem a_number (p q : List Int) (hp : K32 p) (hq : K32 q) (w : World) (hSt : Sta w) (hKo : Kon w) (hPo : Pow w) : Calls Tryd.prog 12 #[.agg (irow .u8 p), .agg (irow .u8 q)] w fun e w' => e = .returned (.string (nbr2 p q)) ∧ Below w.heap.size w w' := by
  have rp0 := hp2_0 w (.cells (irow .u8 p) 23) (.cells (irow .u8 q) 23)
  have rp1 := hp2_1 w (.cells (irow .u8 p) 23) (.cells (irow .u8 q) 23)
  have hw : Below w.heap.size w ((w.alloc (.cells (irow .u8 p) 23)).alloc (.cells (irow .u8 q) 23)) := (((Below.refl _ _).alloc (Nat.le_refl _) _).alloc (by simp) _)
  go_enter Tryd.func12, Tryd.ntmps12
  go_upto_region 1 with (first | (refine wpList_box rfl 23 _ rfl _ rfl (bKy _) ?_) | (refine wpList_box rfl 23 _ rfl _ rfl (bKy _) ?_) | fail)
  try simp only [size_alloc1]
  generalize ((w.alloc (.cells (irow .u8 p) 23)).alloc (.cells (irow .u8 q) 23)) = w0 at *
  go_wp2_with (first | (refine wpList_load_part rfl 23 _ rfl (w.heap.size) 0 rfl 23 (irow .u8 p) (0, 0) (irow .u8 p) _ rp0 (all_rowe _) Tryd.underlying23 rfl (infoKy _ hp.1) ?_) | (refine wpList_load_part rfl 23 _ rfl (w.heap.size + 1) 0 rfl 23 (irow .u8 q) (0, 0) (irow .u8 q) _ rp1 (all_rowe _) Tryd.underlying23 rfl (infoKy _ hq.1) ?_) | fail)
  refine (a_safety p q hp hq _ (hSt.below hw) (hKo.below hw) (hPo.below hw)).mono ?_
  rintro e_ w1 ⟨rfl, hb⟩
  replace rp0 := keep hb rp0
  replace rp1 := keep hb rp1
  replace hw := Below.after hw hb
  clear hb
  go_wp2_with (first | (refine wpList_load_part rfl 23 _ rfl (w.heap.size) 0 rfl 23 (irow .u8 p) (0, 0) (irow .u8 p) _ rp0 (all_rowe _) Tryd.underlying23 rfl (infoKy _ hp.1) ?_) | (refine wpList_load_part rfl 23 _ rfl (w.heap.size + 1) 0 rfl 23 (irow .u8 q) (0, 0) (irow .u8 q) _ rp1 (all_rowe _) Tryd.underlying23 rfl (infoKy _ hq.1) ?_) | fail)
  go_ret
  exact ⟨rfl, hw⟩
set_option maxRecDepth 100000 in
set_option maxHeartbeats 8000000 in
theorem a_Confirm (m : ByteArray) (hm : m.size ≤ 9223372036854775806) (nr : ByteArray) (b g : Nat) (ve vc : Value) (y : List Int) (es : List Ev) (cs : List Ct) (w : World) (hB : Bk w b g ve vc y es cs) (hSt : Sta w) (hKo : Kon w) (hPo : Pow w) : Calls Tryd.prog 13 #[.pointer (some ⟨g, 0, none⟩), .string m, .string nr] w (CaR b g ve vc y es cs (coR y es cs m nr) w) := by
  obtain ⟨ao, cap, rfl, hc1, hc2, hz1, hz2⟩ := hB.cts.sl
  obtain ⟨ae, ca, rfl, hc3, hc4, hz3, hz4⟩ := hB.evs.sl
  have hcl := hB.len
  have hcok := fnC_ok hB.cts.2 m
  have _hst : (fnC cs m).s ≠ 0 → 1 ≤ (fnC cs m).s ∧ (fnC cs m).s ≤ 4 := fun q => by
    unfold fnC at q ⊢
    cases qq : fd cs m with
    | none => rw [qq] at q; exact absurd rfl q
    | some d => exact hB.sta d (fd_some qq).1
  have cF : ∀ W, Bk W b g (.slice ae es.length ca) (.slice ao cs.length cap) y es cs → Calls Tryd.prog 18 #[.slice ao cs.length cap, .string m] W fun e_ w' => e_ = .returned (.agg (ctr (fnC cs m))) ∧ Below W.heap.size W w' := fun W hW => a_find cs m b _ W hW.cts hW.srt (by omega)
  clear _hst
  have hkey := hB.key.1
  have hyk := hB.key
  have cS : ∀ W, Below w.heap.size w W → Calls Tryd.prog 24 #[.agg (irow .u8 y), .agg (irow .u8 (lat (fnC cs m))), .int .i64 100] W fun e w' => e = .returned (.tuple #[.string (nbr2 y (lat (fnC cs m))), .int .i64 0]) ∧ Below W.heap.size W w' := fun W hW => a_safety y _ hyk (lat_ok hcok) W (hSt.below hW) (hKo.below hW) (hPo.below hW)
  have aLA := a_latest (fnC cs m) hcok
  have hlkk := lat_ok hcok
  generalize hce : fnC cs m = c at *
  have hw : Below w.heap.size w w := Below.refl _ _
  go_enter Tryd.func13, Tryd.ntmps13
  have rB := hB.row
  have fc19 := hB.ce
  have fc20 := hB.cc
  go_wp2_with (first | fail)
  clear fc19 fc20
  refine (cF _ hB).mono ?_
  rintro e_ w1 ⟨rfl, hb⟩
  replace rB := keep hb rB
  replace hB := hB.keep hb
  replace hw := Below.after hw hb
  clear hb
  go_wp2_with (first | (refine wpList_store_row rfl 45 _ _ rfl (w1.heap.size) (ctr c) rfl rfl 45 (ctr zct) (hp1_0 w1 _) (ct_info _ hcok.1.1 hcok.2.1) ((ctr_size _ zct_ok.1.1 zct_ok.2.1).trans (ctr_size _ hcok.1.1 hcok.2.1).symm) (ctr_one _) ?_; rw [setRow_alloc_new _ _ _ _ _ _ (by simp)]; refine wpList_stay ?_) | (refine wpList_alloc rfl 45 rfl (ctr zct) zCt ?_) | fail)
  unfold WpStay
  try simp only [Act.put]
  have rl7 := hp1_0 w1 (.cells (ctr c) 45)
  have hb : Below w1.heap.size w1 (w1.alloc (.cells (ctr c) 45)) := (Below.refl _ _).alloc (Nat.le_refl _) _
  generalize (w1.alloc (.cells (ctr c) 45)) = w2 at *
  have lt_gc_0 := lt_of_row rB
  have sz_gc := hw.size
  replace rB := keep hb rB
  replace hB := hB.keep hb
  replace hw := Below.after hw hb
  clear hb
  generalize w1.heap.size = gc at *
  clear w1
  generalize hlk : lat c = lk at *
  generalize hsf : nbr2 y lk = sf at *
  have eB := ba_dec nr sf
  generalize dS0 : (c.s == 0) = xS0 at *
  generalize dS4 : (c.s == 4) = xS4 at *
  generalize dN : decide (nr = sf) = xN at *
  generalize dR : decide (1024 ≤ es.length) = xR
  cases xS0
  · skip
    cases xS4
    · skip
      cases xN
      · skip
        have pS0 : ¬ c.s = 0 := by simpa using dS0
        have pS4 : ¬ c.s = 4 := by simpa using dS4
        have pN : ¬ nr = sf := by simpa using dN
        have hu : Hid (coR y es cs m nr = (221, none)) := hide (by unfold coR; rw [hce]; rw [if_neg pS0]; rw [if_neg pS4]; rw [hlk]; rw [hsf]; rw [if_neg pN])
        have fc21 := cell_at rl7 (ct_n c)
        have fc22 := cell_at rl7 (ct_s c hcok.1.1 hcok.2.1)
        have fc23 := hB.ce
        have fc24 := hB.cc
        go_wp2_with (first | (refine wpList_load_part rfl 45 _ rfl (gc) 0 rfl 45 (ctr c) (0, 0) (ctr c) _ rl7 (all_rowe _) Tryd.underlying45 rfl (ct_info _ hcok.1.1 hcok.2.1) ?_) | (refine wpList_load_part rfl 23 _ rfl (gc) 1 rfl 45 (ctr c) (0, 0) (irow .u8 c.k) _ rl7 (ct_k c hcok.1.1) Tryd.underlying23 rfl (infoKy _ hcok.1.1) ?_) | (refine wpList_load_part rfl 23 _ rfl (gc) 33 rfl 45 (ctr c) (0, 0) (irow .u8 c.x) _ rl7 (ct_x c hcok.1.1 hcok.2.1) Tryd.underlying23 rfl (infoKy _ hcok.2.1) ?_) | fail)
        clear fc21 fc22 fc23 fc24
        refine (aLA _).mono ?_
        rintro e_ wl1 ⟨rfl, hb⟩
        replace rB := keep hb rB
        replace rl7 := keep hb rl7
        replace hB := hB.keep hb
        replace hw := Below.after hw hb
        clear hb
        go_wp2_with (first | (refine wpList_store_row rfl 23 _ _ rfl (wl1.heap.size) (irow .u8 lk) rfl rfl 23 (irow .u8 (zr 32)) (hp1_0 wl1 _) (infoKy _ hlkk.1) (((irow_size _ _).trans (zr_len 32)).trans ((irow_size _ _).trans hlkk.1).symm) (irow_one _ _) ?_; rw [setRow_alloc_new _ _ _ _ _ _ (by simp)]; refine wpList_stay ?_) | (refine wpList_alloc rfl 23 rfl (irow .u8 (zr 32)) zkey ?_) | fail)
        unfold WpStay
        try simp only [Act.put]
        have rl8 := hp1_0 wl1 (.cells (irow .u8 lk) 23)
        have hb : Below wl1.heap.size wl1 (wl1.alloc (.cells (irow .u8 lk) 23)) := (Below.refl _ _).alloc (Nat.le_refl _) _
        generalize (wl1.alloc (.cells (irow .u8 lk) 23)) = wm2 at *
        have lt_gk_0 := lt_of_row rB
        have lt_gk_1 := lt_of_row rl7
        have sz_gk := hw.size
        replace rB := keep hb rB
        replace rl7 := keep hb rl7
        replace hB := hB.keep hb
        replace hw := Below.after hw hb
        clear hb
        generalize wl1.heap.size = gk at *
        clear wl1
        go_wp2_with (fail)
        have hb : Below wm2.heap.size wm2 wm2.drew := below_drN (Below.refl _ _) 1
        replace rB := keep hb rB
        replace rl7 := keep hb rl7
        replace rl8 := keep hb rl8
        replace hB := hB.keep hb
        replace hw := Below.after hw hb
        clear hb
        refine wp_region_noPanic ?_
        refine wp_region_held (S := fun W_ => W_.heap[g]? = some (.cells (bkr y (.slice ae es.length ca) (.slice ao cs.length cap)) 51 (0, 0)) ∧ W_.heap[gk]? = some (.cells (irow .u8 lk) 23 (0, 0))) (by kernel_rfl) ?_
        change wpAnyH _ _ _ _ _ _ _ _ (World.drew _)
        generalize wm2.drew = wd3 at *
        refine wpAnyH_take (i := 0) (v := ?v4) rfl (by kernel_rfl) (by kernel_rfl) (by kernel_rfl) (fun _ _ _ h => h) (Or.inl ⟨by rfl, ?y4⟩) (⟨rB, rl8⟩) ?r4
        case y4 =>
          intro w_ hS_
          go_simp
          try with_reducible rfl
        simp only [Act.put, List.getElem_toArray, List.getElem_cons_zero, List.setIfInBounds_toArray, List.set_cons_succ, List.set_cons_zero]
        refine wpAnyH_take (i := 1) (v := ?v5) rfl (by kernel_rfl) (by kernel_rfl) (by kernel_rfl) (fun _ _ _ h => h) (Or.inl ⟨by rfl, ?y5⟩) (⟨rB, rl8⟩) ?r5
        case y5 =>
          intro w_ hS_
          go_simp
          try with_reducible rfl
        simp only [Act.put, List.getElem_toArray, List.getElem_cons_succ, List.getElem_cons_zero, List.setIfInBounds_toArray, List.set_cons_succ, List.set_cons_zero]
        refine wpAnyH_take (i := 2) (v := ?v6) rfl (by kernel_rfl) (by kernel_rfl) (by kernel_rfl) (fun _ _ _ h => h) (Or.inl ⟨by rfl, ?y6⟩) (⟨rB, rl8⟩) ?r6
        case y6 =>
          intro w_ hS_
          go_simp
          try with_reducible rfl
        simp only [Act.put, List.getElem_toArray, List.getElem_cons_succ, List.getElem_cons_zero, List.setIfInBounds_toArray, List.set_cons_succ, List.set_cons_zero]
        refine wpAnyH_take (i := 3) (v := .agg (irow .u8 y)) rfl (by kernel_rfl) (by kernel_rfl) (by kernel_rfl) (fun _ _ _ h => h) (Or.inl ⟨by rfl, ?y7⟩) (⟨rB, rl8⟩) ?r7
        case y7 =>
          intro w_ hS_
          simp only [List.getElem_toArray, List.getElem_cons_succ, List.getElem_cons_zero]
          exact e_load_part 23 _ (by rfl) (g) 0 (by rfl) 51 (bkr y (.slice ae es.length ca) (.slice ao cs.length cap)) (0, 0) (irow .u8 y) _ (hS_.1) (bk_k y _ _ hkey) Tryd.underlying23 rfl (infoKy _ hkey)
        simp only [Act.put, List.getElem_toArray, List.getElem_cons_succ, List.getElem_cons_zero, List.setIfInBounds_toArray, List.set_cons_succ, List.set_cons_zero]
        refine wpAnyH_take (i := 4) (v := .agg (irow .u8 lk)) rfl (by kernel_rfl) (by kernel_rfl) (by kernel_rfl) (fun _ _ _ h => h) (Or.inl ⟨by rfl, ?y8⟩) (⟨rB, rl8⟩) ?r8
        case y8 =>
          intro w_ hS_
          simp only [List.getElem_toArray, List.getElem_cons_succ, List.getElem_cons_zero]
          exact e_load_part 23 _ (by rfl) (gk) 0 (by rfl) 23 (irow .u8 lk) (0, 0) (irow .u8 lk) _ (hS_.2) (all_rowe _) Tryd.underlying23 rfl (infoKy _ hlkk.1)
        simp only [Act.put, List.getElem_toArray, List.getElem_cons_succ, List.getElem_cons_zero, List.setIfInBounds_toArray, List.set_cons_succ, List.set_cons_zero]
        refine eH_one (k := 5) (fuel := 5) (by kernel_rfl) rfl (by kernel_rfl) (fun K_ hK_ => ?_)
        refine wp_call_ex (f := 24) (by kernel_rfl) (ex1e (cS _ hw)) (fun v_ wq9 hX_ => ?_)
        obtain ⟨rfl, hb⟩ := hX_
        replace rB := keep hb rB
        replace rl7 := keep hb rl7
        replace rl8 := keep hb rl8
        replace hB := hB.keep hb
        replace hw := Below.after hw hb
        clear hb
        refine hK_ _ _ (⟨rB, rl8⟩) ?_
        simp only [Act.put, List.getElem_toArray, List.getElem_cons_succ, List.getElem_cons_zero, List.setIfInBounds_toArray, List.set_cons_succ, List.set_cons_zero]
        clear hK_
        refine wpAnyH_take (i := 6) (v := ?v10) rfl (by kernel_rfl) (by kernel_rfl) (by kernel_rfl) (fun _ _ _ h => h) (Or.inl ⟨by rfl, ?y10⟩) (⟨rB, rl8⟩) ?r10
        case y10 =>
          intro w_ hS_
          go_simp
          try with_reducible rfl
        simp only [Act.put, List.getElem_toArray, List.getElem_cons_succ, List.getElem_cons_zero, List.setIfInBounds_toArray, List.set_cons_succ, List.set_cons_zero]
        refine wpAnyH_take (i := 7) (v := ?v11) rfl (by kernel_rfl) (by kernel_rfl) (by kernel_rfl) (fun _ _ _ h => h) (Or.inl ⟨by rfl, ?y11⟩) (⟨rB, rl8⟩) ?r11
        case y11 =>
          intro w_ hS_
          go_simp
          try with_reducible rfl
        simp only [Act.put, List.getElem_toArray, List.getElem_cons_succ, List.getElem_cons_zero, List.setIfInBounds_toArray, List.set_cons_succ, List.set_cons_zero]
        refine wpAnyH_take (i := 8) (v := ?v12) rfl (by kernel_rfl) (by kernel_rfl) (by kernel_rfl) (fun _ _ _ h => h) (Or.inl ⟨by rfl, ?y12⟩) (⟨rB, rl8⟩) ?r12
        case y12 =>
          intro w_ hS_
          go_simp
          try with_reducible rfl
        simp only [Act.put, List.getElem_toArray, List.getElem_cons_succ, List.getElem_cons_zero, List.setIfInBounds_toArray, List.set_cons_succ, List.set_cons_zero]
        refine wpAnyH_take (i := 9) (v := ?v13) rfl (by kernel_rfl) (by kernel_rfl) (by kernel_rfl) (fun _ _ _ h => h) (Or.inl ⟨by rfl, ?y13⟩) (⟨rB, rl8⟩) ?r13
        case y13 =>
          intro w_ hS_
          go_simp
          try with_reducible rfl
        simp only [Act.put, List.getElem_toArray, List.getElem_cons_succ, List.getElem_cons_zero, List.setIfInBounds_toArray, List.set_cons_succ, List.set_cons_zero]
        refine wpAnyH_take (i := 10) (v := ?v14) rfl (by kernel_rfl) (by kernel_rfl) (by kernel_rfl) (fun _ _ _ h => h) (Or.inl ⟨by rfl, ?y14⟩) (⟨rB, rl8⟩) ?r14
        case y14 =>
          intro w_ hS_
          go_simp
          try with_reducible rfl
        simp only [Act.put, List.getElem_toArray, List.getElem_cons_succ, List.getElem_cons_zero, List.setIfInBounds_toArray, List.set_cons_succ, List.set_cons_zero]
        refine wpAnyH_done (by kernel_rfl) ?_ _
        refine NoPanic.normal ?_
        clear pN
        have fc25 := cell_at rl7 (ct_n c)
        have fc26 := cell_at rl7 (ct_s c hcok.1.1 hcok.2.1)
        have fc27 := hB.ce
        have fc28 := hB.cc
        go_wp2_with (first | (refine wpList_load_part rfl 45 _ rfl (gc) 0 rfl 45 (ctr c) (0, 0) (ctr c) _ rl7 (all_rowe _) Tryd.underlying45 rfl (ct_info _ hcok.1.1 hcok.2.1) ?_) | (refine wpList_load_part rfl 23 _ rfl (gc) 1 rfl 45 (ctr c) (0, 0) (irow .u8 c.k) _ rl7 (ct_k c hcok.1.1) Tryd.underlying23 rfl (infoKy _ hcok.1.1) ?_) | (refine wpList_load_part rfl 23 _ rfl (gc) 33 rfl 45 (ctr c) (0, 0) (irow .u8 c.x) _ rl7 (ct_x c hcok.1.1 hcok.2.1) Tryd.underlying23 rfl (infoKy _ hcok.2.1) ?_) | (refine wpList_load_part rfl 23 _ rfl (gk) 0 rfl 23 (irow .u8 lk) (0, 0) (irow .u8 lk) _ rl8 (all_rowe _) Tryd.underlying23 rfl (infoKy _ hlkk.1) ?_) | fail)
        clear fc25 fc26 fc27 fc28
        go_ret
        exact CaR.still hu.out rfl hB hw
      · skip
        cases xR
        · skip
          have pS0 : ¬ c.s = 0 := by simpa using dS0
          have pS4 : ¬ c.s = 4 := by simpa using dS4
          have pN : nr = sf := by simpa using dN
          have pR : ¬ 1024 ≤ es.length := by simpa using dR
          have hu : Hid (coR y es cs m nr = (0, some ⟨4, m, lk⟩)) := hide (by unfold coR; rw [hce]; rw [if_neg pS0]; rw [if_neg pS4]; rw [hlk]; rw [hsf]; rw [if_pos pN]; unfold rm; rw [if_neg pR])
          have fc29 := cell_at rl7 (ct_n c)
          have fc30 := cell_at rl7 (ct_s c hcok.1.1 hcok.2.1)
          have fc31 := hB.ce
          have fc32 := hB.cc
          go_wp2_with (first | (refine wpList_load_part rfl 45 _ rfl (gc) 0 rfl 45 (ctr c) (0, 0) (ctr c) _ rl7 (all_rowe _) Tryd.underlying45 rfl (ct_info _ hcok.1.1 hcok.2.1) ?_) | (refine wpList_load_part rfl 23 _ rfl (gc) 1 rfl 45 (ctr c) (0, 0) (irow .u8 c.k) _ rl7 (ct_k c hcok.1.1) Tryd.underlying23 rfl (infoKy _ hcok.1.1) ?_) | (refine wpList_load_part rfl 23 _ rfl (gc) 33 rfl 45 (ctr c) (0, 0) (irow .u8 c.x) _ rl7 (ct_x c hcok.1.1 hcok.2.1) Tryd.underlying23 rfl (infoKy _ hcok.2.1) ?_) | fail)
          clear fc29 fc30 fc31 fc32
          refine (aLA _).mono ?_
          rintro e_ wl15 ⟨rfl, hb⟩
          replace rB := keep hb rB
          replace rl7 := keep hb rl7
          replace hB := hB.keep hb
          replace hw := Below.after hw hb
          clear hb
          go_wp2_with (first | (refine wpList_store_row rfl 23 _ _ rfl (wl15.heap.size) (irow .u8 lk) rfl rfl 23 (irow .u8 (zr 32)) (hp1_0 wl15 _) (infoKy _ hlkk.1) (((irow_size _ _).trans (zr_len 32)).trans ((irow_size _ _).trans hlkk.1).symm) (irow_one _ _) ?_; rw [setRow_alloc_new _ _ _ _ _ _ (by simp)]; refine wpList_stay ?_) | (refine wpList_alloc rfl 23 rfl (irow .u8 (zr 32)) zkey ?_) | fail)
          unfold WpStay
          try simp only [Act.put]
          have rl8 := hp1_0 wl15 (.cells (irow .u8 lk) 23)
          have hb : Below wl15.heap.size wl15 (wl15.alloc (.cells (irow .u8 lk) 23)) := (Below.refl _ _).alloc (Nat.le_refl _) _
          generalize (wl15.alloc (.cells (irow .u8 lk) 23)) = wm16 at *
          have lt_gk_0 := lt_of_row rB
          have lt_gk_1 := lt_of_row rl7
          have sz_gk := hw.size
          replace rB := keep hb rB
          replace rl7 := keep hb rl7
          replace hB := hB.keep hb
          replace hw := Below.after hw hb
          clear hb
          generalize wl15.heap.size = gk at *
          clear wl15
          go_wp2_with (fail)
          have hb : Below wm16.heap.size wm16 wm16.drew := below_drN (Below.refl _ _) 1
          replace rB := keep hb rB
          replace rl7 := keep hb rl7
          replace rl8 := keep hb rl8
          replace hB := hB.keep hb
          replace hw := Below.after hw hb
          clear hb
          refine wp_region_noPanic ?_
          refine wp_region_held (S := fun W_ => W_.heap[g]? = some (.cells (bkr y (.slice ae es.length ca) (.slice ao cs.length cap)) 51 (0, 0)) ∧ W_.heap[gk]? = some (.cells (irow .u8 lk) 23 (0, 0))) (by kernel_rfl) ?_
          change wpAnyH _ _ _ _ _ _ _ _ (World.drew _)
          generalize wm16.drew = wd17 at *
          refine wpAnyH_take (i := 0) (v := ?v18) rfl (by kernel_rfl) (by kernel_rfl) (by kernel_rfl) (fun _ _ _ h => h) (Or.inl ⟨by rfl, ?y18⟩) (⟨rB, rl8⟩) ?r18
          case y18 =>
            intro w_ hS_
            go_simp
            try with_reducible rfl
          simp only [Act.put, List.getElem_toArray, List.getElem_cons_zero, List.setIfInBounds_toArray, List.set_cons_succ, List.set_cons_zero]
          refine wpAnyH_take (i := 1) (v := ?v19) rfl (by kernel_rfl) (by kernel_rfl) (by kernel_rfl) (fun _ _ _ h => h) (Or.inl ⟨by rfl, ?y19⟩) (⟨rB, rl8⟩) ?r19
          case y19 =>
            intro w_ hS_
            go_simp
            try with_reducible rfl
          simp only [Act.put, List.getElem_toArray, List.getElem_cons_succ, List.getElem_cons_zero, List.setIfInBounds_toArray, List.set_cons_succ, List.set_cons_zero]
          refine wpAnyH_take (i := 2) (v := ?v20) rfl (by kernel_rfl) (by kernel_rfl) (by kernel_rfl) (fun _ _ _ h => h) (Or.inl ⟨by rfl, ?y20⟩) (⟨rB, rl8⟩) ?r20
          case y20 =>
            intro w_ hS_
            go_simp
            try with_reducible rfl
          simp only [Act.put, List.getElem_toArray, List.getElem_cons_succ, List.getElem_cons_zero, List.setIfInBounds_toArray, List.set_cons_succ, List.set_cons_zero]
          refine wpAnyH_take (i := 3) (v := .agg (irow .u8 y)) rfl (by kernel_rfl) (by kernel_rfl) (by kernel_rfl) (fun _ _ _ h => h) (Or.inl ⟨by rfl, ?y21⟩) (⟨rB, rl8⟩) ?r21
          case y21 =>
            intro w_ hS_
            simp only [List.getElem_toArray, List.getElem_cons_succ, List.getElem_cons_zero]
            exact e_load_part 23 _ (by rfl) (g) 0 (by rfl) 51 (bkr y (.slice ae es.length ca) (.slice ao cs.length cap)) (0, 0) (irow .u8 y) _ (hS_.1) (bk_k y _ _ hkey) Tryd.underlying23 rfl (infoKy _ hkey)
          simp only [Act.put, List.getElem_toArray, List.getElem_cons_succ, List.getElem_cons_zero, List.setIfInBounds_toArray, List.set_cons_succ, List.set_cons_zero]
          refine wpAnyH_take (i := 4) (v := .agg (irow .u8 lk)) rfl (by kernel_rfl) (by kernel_rfl) (by kernel_rfl) (fun _ _ _ h => h) (Or.inl ⟨by rfl, ?y22⟩) (⟨rB, rl8⟩) ?r22
          case y22 =>
            intro w_ hS_
            simp only [List.getElem_toArray, List.getElem_cons_succ, List.getElem_cons_zero]
            exact e_load_part 23 _ (by rfl) (gk) 0 (by rfl) 23 (irow .u8 lk) (0, 0) (irow .u8 lk) _ (hS_.2) (all_rowe _) Tryd.underlying23 rfl (infoKy _ hlkk.1)
          simp only [Act.put, List.getElem_toArray, List.getElem_cons_succ, List.getElem_cons_zero, List.setIfInBounds_toArray, List.set_cons_succ, List.set_cons_zero]
          refine eH_one (k := 5) (fuel := 5) (by kernel_rfl) rfl (by kernel_rfl) (fun K_ hK_ => ?_)
          refine wp_call_ex (f := 24) (by kernel_rfl) (ex1e (cS _ hw)) (fun v_ wq23 hX_ => ?_)
          obtain ⟨rfl, hb⟩ := hX_
          replace rB := keep hb rB
          replace rl7 := keep hb rl7
          replace rl8 := keep hb rl8
          replace hB := hB.keep hb
          replace hw := Below.after hw hb
          clear hb
          refine hK_ _ _ (⟨rB, rl8⟩) ?_
          simp only [Act.put, List.getElem_toArray, List.getElem_cons_succ, List.getElem_cons_zero, List.setIfInBounds_toArray, List.set_cons_succ, List.set_cons_zero]
          clear hK_
          refine wpAnyH_take (i := 6) (v := ?v24) rfl (by kernel_rfl) (by kernel_rfl) (by kernel_rfl) (fun _ _ _ h => h) (Or.inl ⟨by rfl, ?y24⟩) (⟨rB, rl8⟩) ?r24
          case y24 =>
            intro w_ hS_
            go_simp
            try with_reducible rfl
          simp only [Act.put, List.getElem_toArray, List.getElem_cons_succ, List.getElem_cons_zero, List.setIfInBounds_toArray, List.set_cons_succ, List.set_cons_zero]
          refine wpAnyH_take (i := 7) (v := ?v25) rfl (by kernel_rfl) (by kernel_rfl) (by kernel_rfl) (fun _ _ _ h => h) (Or.inl ⟨by rfl, ?y25⟩) (⟨rB, rl8⟩) ?r25
          case y25 =>
            intro w_ hS_
            go_simp
            try with_reducible rfl
          simp only [Act.put, List.getElem_toArray, List.getElem_cons_succ, List.getElem_cons_zero, List.setIfInBounds_toArray, List.set_cons_succ, List.set_cons_zero]
          refine wpAnyH_take (i := 8) (v := ?v26) rfl (by kernel_rfl) (by kernel_rfl) (by kernel_rfl) (fun _ _ _ h => h) (Or.inl ⟨by rfl, ?y26⟩) (⟨rB, rl8⟩) ?r26
          case y26 =>
            intro w_ hS_
            go_simp
            try with_reducible rfl
          simp only [Act.put, List.getElem_toArray, List.getElem_cons_succ, List.getElem_cons_zero, List.setIfInBounds_toArray, List.set_cons_succ, List.set_cons_zero]
          refine wpAnyH_take (i := 9) (v := ?v27) rfl (by kernel_rfl) (by kernel_rfl) (by kernel_rfl) (fun _ _ _ h => h) (Or.inl ⟨by rfl, ?y27⟩) (⟨rB, rl8⟩) ?r27
          case y27 =>
            intro w_ hS_
            go_simp
            try with_reducible rfl
          simp only [Act.put, List.getElem_toArray, List.getElem_cons_succ, List.getElem_cons_zero, List.setIfInBounds_toArray, List.set_cons_succ, List.set_cons_zero]
          refine wpAnyH_take (i := 10) (v := ?v28) rfl (by kernel_rfl) (by kernel_rfl) (by kernel_rfl) (fun _ _ _ h => h) (Or.inl ⟨by rfl, ?y28⟩) (⟨rB, rl8⟩) ?r28
          case y28 =>
            intro w_ hS_
            go_simp
            try with_reducible rfl
          simp only [Act.put, List.getElem_toArray, List.getElem_cons_succ, List.getElem_cons_zero, List.setIfInBounds_toArray, List.set_cons_succ, List.set_cons_zero]
          refine wpAnyH_done (by kernel_rfl) ?_ _
          refine NoPanic.normal ?_
          clear pN
          have fc33 := cell_at rl7 (ct_n c)
          have fc34 := cell_at rl7 (ct_s c hcok.1.1 hcok.2.1)
          have fc35 := hB.ce
          have fc36 := hB.cc
          go_wp2_with (first | (refine wpList_load_part rfl 45 _ rfl (gc) 0 rfl 45 (ctr c) (0, 0) (ctr c) _ rl7 (all_rowe _) Tryd.underlying45 rfl (ct_info _ hcok.1.1 hcok.2.1) ?_) | (refine wpList_load_part rfl 23 _ rfl (gc) 1 rfl 45 (ctr c) (0, 0) (irow .u8 c.k) _ rl7 (ct_k c hcok.1.1) Tryd.underlying23 rfl (infoKy _ hcok.1.1) ?_) | (refine wpList_load_part rfl 23 _ rfl (gc) 33 rfl 45 (ctr c) (0, 0) (irow .u8 c.x) _ rl7 (ct_x c hcok.1.1 hcok.2.1) Tryd.underlying23 rfl (infoKy _ hcok.2.1) ?_) | (refine wpList_load_part rfl 23 _ rfl (gk) 0 rfl 23 (irow .u8 lk) (0, 0) (irow .u8 lk) _ rl8 (all_rowe _) Tryd.underlying23 rfl (infoKy _ hlkk.1) ?_) | fail)
          clear fc33 fc34 fc35 fc36
          refine (add_go 4 (by decide) m hm lk hlkk b g _ _ y es cs _ hB (by omega)).mono ?_
          rintro e_ wz29 ⟨ve', vc', rfl, hB2, hN1, hN2, hF⟩
          replace hN1 := hN1.of hw.size
          replace hN2 := hN2.of hw.size
          replace hF := (Fr.of hw).step hF (fun _ _ q => q)
          go_wp2_with (fail)
          go_ret
          exact ⟨ve', vc', by rw [hu.out]; rfl, by rw [hu.out]; exact hB2, hN1, hN2, hF⟩
        · skip
          have pS0 : ¬ c.s = 0 := by simpa using dS0
          have pS4 : ¬ c.s = 4 := by simpa using dS4
          have pN : nr = sf := by simpa using dN
          have pR : 1024 ≤ es.length := by simpa using dR
          have hu : Hid (coR y es cs m nr = (224, none)) := hide (by unfold coR; rw [hce]; rw [if_neg pS0]; rw [if_neg pS4]; rw [hlk]; rw [hsf]; rw [if_pos pN]; unfold rm; rw [if_pos pR])
          have fc37 := cell_at rl7 (ct_n c)
          have fc38 := cell_at rl7 (ct_s c hcok.1.1 hcok.2.1)
          have fc39 := hB.ce
          have fc40 := hB.cc
          go_wp2_with (first | (refine wpList_load_part rfl 45 _ rfl (gc) 0 rfl 45 (ctr c) (0, 0) (ctr c) _ rl7 (all_rowe _) Tryd.underlying45 rfl (ct_info _ hcok.1.1 hcok.2.1) ?_) | (refine wpList_load_part rfl 23 _ rfl (gc) 1 rfl 45 (ctr c) (0, 0) (irow .u8 c.k) _ rl7 (ct_k c hcok.1.1) Tryd.underlying23 rfl (infoKy _ hcok.1.1) ?_) | (refine wpList_load_part rfl 23 _ rfl (gc) 33 rfl 45 (ctr c) (0, 0) (irow .u8 c.x) _ rl7 (ct_x c hcok.1.1 hcok.2.1) Tryd.underlying23 rfl (infoKy _ hcok.2.1) ?_) | fail)
          clear fc37 fc38 fc39 fc40
          refine (aLA _).mono ?_
          rintro e_ wl30 ⟨rfl, hb⟩
          replace rB := keep hb rB
          replace rl7 := keep hb rl7
          replace hB := hB.keep hb
          replace hw := Below.after hw hb
          clear hb
          go_wp2_with (first | (refine wpList_store_row rfl 23 _ _ rfl (wl30.heap.size) (irow .u8 lk) rfl rfl 23 (irow .u8 (zr 32)) (hp1_0 wl30 _) (infoKy _ hlkk.1) (((irow_size _ _).trans (zr_len 32)).trans ((irow_size _ _).trans hlkk.1).symm) (irow_one _ _) ?_; rw [setRow_alloc_new _ _ _ _ _ _ (by simp)]; refine wpList_stay ?_) | (refine wpList_alloc rfl 23 rfl (irow .u8 (zr 32)) zkey ?_) | fail)
          unfold WpStay
          try simp only [Act.put]
          have rl8 := hp1_0 wl30 (.cells (irow .u8 lk) 23)
          have hb : Below wl30.heap.size wl30 (wl30.alloc (.cells (irow .u8 lk) 23)) := (Below.refl _ _).alloc (Nat.le_refl _) _
          generalize (wl30.alloc (.cells (irow .u8 lk) 23)) = wm31 at *
          have lt_gk_0 := lt_of_row rB
          have lt_gk_1 := lt_of_row rl7
          have sz_gk := hw.size
          replace rB := keep hb rB
          replace rl7 := keep hb rl7
          replace hB := hB.keep hb
          replace hw := Below.after hw hb
          clear hb
          generalize wl30.heap.size = gk at *
          clear wl30
          go_wp2_with (fail)
          have hb : Below wm31.heap.size wm31 wm31.drew := below_drN (Below.refl _ _) 1
          replace rB := keep hb rB
          replace rl7 := keep hb rl7
          replace rl8 := keep hb rl8
          replace hB := hB.keep hb
          replace hw := Below.after hw hb
          clear hb
          refine wp_region_noPanic ?_
          refine wp_region_held (S := fun W_ => W_.heap[g]? = some (.cells (bkr y (.slice ae es.length ca) (.slice ao cs.length cap)) 51 (0, 0)) ∧ W_.heap[gk]? = some (.cells (irow .u8 lk) 23 (0, 0))) (by kernel_rfl) ?_
          change wpAnyH _ _ _ _ _ _ _ _ (World.drew _)
          generalize wm31.drew = wd32 at *
          refine wpAnyH_take (i := 0) (v := ?v33) rfl (by kernel_rfl) (by kernel_rfl) (by kernel_rfl) (fun _ _ _ h => h) (Or.inl ⟨by rfl, ?y33⟩) (⟨rB, rl8⟩) ?r33
          case y33 =>
            intro w_ hS_
            go_simp
            try with_reducible rfl
          simp only [Act.put, List.getElem_toArray, List.getElem_cons_zero, List.setIfInBounds_toArray, List.set_cons_succ, List.set_cons_zero]
          refine wpAnyH_take (i := 1) (v := ?v34) rfl (by kernel_rfl) (by kernel_rfl) (by kernel_rfl) (fun _ _ _ h => h) (Or.inl ⟨by rfl, ?y34⟩) (⟨rB, rl8⟩) ?r34
          case y34 =>
            intro w_ hS_
            go_simp
            try with_reducible rfl
          simp only [Act.put, List.getElem_toArray, List.getElem_cons_succ, List.getElem_cons_zero, List.setIfInBounds_toArray, List.set_cons_succ, List.set_cons_zero]
          refine wpAnyH_take (i := 2) (v := ?v35) rfl (by kernel_rfl) (by kernel_rfl) (by kernel_rfl) (fun _ _ _ h => h) (Or.inl ⟨by rfl, ?y35⟩) (⟨rB, rl8⟩) ?r35
          case y35 =>
            intro w_ hS_
            go_simp
            try with_reducible rfl
          simp only [Act.put, List.getElem_toArray, List.getElem_cons_succ, List.getElem_cons_zero, List.setIfInBounds_toArray, List.set_cons_succ, List.set_cons_zero]
          refine wpAnyH_take (i := 3) (v := .agg (irow .u8 y)) rfl (by kernel_rfl) (by kernel_rfl) (by kernel_rfl) (fun _ _ _ h => h) (Or.inl ⟨by rfl, ?y36⟩) (⟨rB, rl8⟩) ?r36
          case y36 =>
            intro w_ hS_
            simp only [List.getElem_toArray, List.getElem_cons_succ, List.getElem_cons_zero]
            exact e_load_part 23 _ (by rfl) (g) 0 (by rfl) 51 (bkr y (.slice ae es.length ca) (.slice ao cs.length cap)) (0, 0) (irow .u8 y) _ (hS_.1) (bk_k y _ _ hkey) Tryd.underlying23 rfl (infoKy _ hkey)
          simp only [Act.put, List.getElem_toArray, List.getElem_cons_succ, List.getElem_cons_zero, List.setIfInBounds_toArray, List.set_cons_succ, List.set_cons_zero]
          refine wpAnyH_take (i := 4) (v := .agg (irow .u8 lk)) rfl (by kernel_rfl) (by kernel_rfl) (by kernel_rfl) (fun _ _ _ h => h) (Or.inl ⟨by rfl, ?y37⟩) (⟨rB, rl8⟩) ?r37
          case y37 =>
            intro w_ hS_
            simp only [List.getElem_toArray, List.getElem_cons_succ, List.getElem_cons_zero]
            exact e_load_part 23 _ (by rfl) (gk) 0 (by rfl) 23 (irow .u8 lk) (0, 0) (irow .u8 lk) _ (hS_.2) (all_rowe _) Tryd.underlying23 rfl (infoKy _ hlkk.1)
          simp only [Act.put, List.getElem_toArray, List.getElem_cons_succ, List.getElem_cons_zero, List.setIfInBounds_toArray, List.set_cons_succ, List.set_cons_zero]
          refine eH_one (k := 5) (fuel := 5) (by kernel_rfl) rfl (by kernel_rfl) (fun K_ hK_ => ?_)
          refine wp_call_ex (f := 24) (by kernel_rfl) (ex1e (cS _ hw)) (fun v_ wq38 hX_ => ?_)
          obtain ⟨rfl, hb⟩ := hX_
          replace rB := keep hb rB
          replace rl7 := keep hb rl7
          replace rl8 := keep hb rl8
          replace hB := hB.keep hb
          replace hw := Below.after hw hb
          clear hb
          refine hK_ _ _ (⟨rB, rl8⟩) ?_
          simp only [Act.put, List.getElem_toArray, List.getElem_cons_succ, List.getElem_cons_zero, List.setIfInBounds_toArray, List.set_cons_succ, List.set_cons_zero]
          clear hK_
          refine wpAnyH_take (i := 6) (v := ?v39) rfl (by kernel_rfl) (by kernel_rfl) (by kernel_rfl) (fun _ _ _ h => h) (Or.inl ⟨by rfl, ?y39⟩) (⟨rB, rl8⟩) ?r39
          case y39 =>
            intro w_ hS_
            go_simp
            try with_reducible rfl
          simp only [Act.put, List.getElem_toArray, List.getElem_cons_succ, List.getElem_cons_zero, List.setIfInBounds_toArray, List.set_cons_succ, List.set_cons_zero]
          refine wpAnyH_take (i := 7) (v := ?v40) rfl (by kernel_rfl) (by kernel_rfl) (by kernel_rfl) (fun _ _ _ h => h) (Or.inl ⟨by rfl, ?y40⟩) (⟨rB, rl8⟩) ?r40
          case y40 =>
            intro w_ hS_
            go_simp
            try with_reducible rfl
          simp only [Act.put, List.getElem_toArray, List.getElem_cons_succ, List.getElem_cons_zero, List.setIfInBounds_toArray, List.set_cons_succ, List.set_cons_zero]
          refine wpAnyH_take (i := 8) (v := ?v41) rfl (by kernel_rfl) (by kernel_rfl) (by kernel_rfl) (fun _ _ _ h => h) (Or.inl ⟨by rfl, ?y41⟩) (⟨rB, rl8⟩) ?r41
          case y41 =>
            intro w_ hS_
            go_simp
            try with_reducible rfl
          simp only [Act.put, List.getElem_toArray, List.getElem_cons_succ, List.getElem_cons_zero, List.setIfInBounds_toArray, List.set_cons_succ, List.set_cons_zero]
          refine wpAnyH_take (i := 9) (v := ?v42) rfl (by kernel_rfl) (by kernel_rfl) (by kernel_rfl) (fun _ _ _ h => h) (Or.inl ⟨by rfl, ?y42⟩) (⟨rB, rl8⟩) ?r42
          case y42 =>
            intro w_ hS_
            go_simp
            try with_reducible rfl
          simp only [Act.put, List.getElem_toArray, List.getElem_cons_succ, List.getElem_cons_zero, List.setIfInBounds_toArray, List.set_cons_succ, List.set_cons_zero]
          refine wpAnyH_take (i := 10) (v := ?v43) rfl (by kernel_rfl) (by kernel_rfl) (by kernel_rfl) (fun _ _ _ h => h) (Or.inl ⟨by rfl, ?y43⟩) (⟨rB, rl8⟩) ?r43
          case y43 =>
            intro w_ hS_
            go_simp
            try with_reducible rfl
          simp only [Act.put, List.getElem_toArray, List.getElem_cons_succ, List.getElem_cons_zero, List.setIfInBounds_toArray, List.set_cons_succ, List.set_cons_zero]
          refine wpAnyH_done (by kernel_rfl) ?_ _
          refine NoPanic.normal ?_
          clear pN
          have fc41 := cell_at rl7 (ct_n c)
          have fc42 := cell_at rl7 (ct_s c hcok.1.1 hcok.2.1)
          have fc43 := hB.ce
          have fc44 := hB.cc
          go_wp2_with (first | (refine wpList_load_part rfl 45 _ rfl (gc) 0 rfl 45 (ctr c) (0, 0) (ctr c) _ rl7 (all_rowe _) Tryd.underlying45 rfl (ct_info _ hcok.1.1 hcok.2.1) ?_) | (refine wpList_load_part rfl 23 _ rfl (gc) 1 rfl 45 (ctr c) (0, 0) (irow .u8 c.k) _ rl7 (ct_k c hcok.1.1) Tryd.underlying23 rfl (infoKy _ hcok.1.1) ?_) | (refine wpList_load_part rfl 23 _ rfl (gc) 33 rfl 45 (ctr c) (0, 0) (irow .u8 c.x) _ rl7 (ct_x c hcok.1.1 hcok.2.1) Tryd.underlying23 rfl (infoKy _ hcok.2.1) ?_) | (refine wpList_load_part rfl 23 _ rfl (gk) 0 rfl 23 (irow .u8 lk) (0, 0) (irow .u8 lk) _ rl8 (all_rowe _) Tryd.underlying23 rfl (infoKy _ hlkk.1) ?_) | fail)
          clear fc41 fc42 fc43 fc44
          refine (add_no 4 (by decide) m hm lk hlkk b g _ _ y es cs _ hB pR).mono ?_
          rintro e_ wz44 ⟨rfl, hB9, hb⟩
          replace rB := keep hb rB
          replace rl7 := keep hb rl7
          replace rl8 := keep hb rl8
          replace hB := hB.keep hb
          replace hw := Below.after hw hb
          clear hb
          clear hB9
          go_wp2_with (fail)
          go_ret
          exact CaR.still hu.out rfl hB hw
    · skip
      have pS0 : ¬ c.s = 0 := by simpa using dS0
      have pS4 : c.s = 4 := by simpa using dS4
      have hu : Hid (coR y es cs m nr = (222, none)) := hide (by unfold coR; rw [hce]; rw [if_neg pS0]; rw [if_pos pS4])
      have fc45 := cell_at rl7 (ct_n c)
      have fc46 := cell_at rl7 (ct_s c hcok.1.1 hcok.2.1)
      have fc47 := hB.ce
      have fc48 := hB.cc
      go_wp2_with (first | (refine wpList_load_part rfl 45 _ rfl (gc) 0 rfl 45 (ctr c) (0, 0) (ctr c) _ rl7 (all_rowe _) Tryd.underlying45 rfl (ct_info _ hcok.1.1 hcok.2.1) ?_) | (refine wpList_load_part rfl 23 _ rfl (gc) 1 rfl 45 (ctr c) (0, 0) (irow .u8 c.k) _ rl7 (ct_k c hcok.1.1) Tryd.underlying23 rfl (infoKy _ hcok.1.1) ?_) | (refine wpList_load_part rfl 23 _ rfl (gc) 33 rfl 45 (ctr c) (0, 0) (irow .u8 c.x) _ rl7 (ct_x c hcok.1.1 hcok.2.1) Tryd.underlying23 rfl (infoKy _ hcok.2.1) ?_) | fail)
      clear fc45 fc46 fc47 fc48
      go_ret
      exact CaR.still hu.out rfl hB hw
  · skip
    have pS0 : c.s = 0 := by simpa using dS0
    have hu : Hid (coR y es cs m nr = (220, none)) := hide (by unfold coR; rw [hce]; rw [if_pos pS0])
    have fc49 := cell_at rl7 (ct_n c)
    have fc50 := cell_at rl7 (ct_s c hcok.1.1 hcok.2.1)
    have fc51 := hB.ce
    have fc52 := hB.cc
    go_wp2_with (first | (refine wpList_load_part rfl 45 _ rfl (gc) 0 rfl 45 (ctr c) (0, 0) (ctr c) _ rl7 (all_rowe _) Tryd.underlying45 rfl (ct_info _ hcok.1.1 hcok.2.1) ?_) | (refine wpList_load_part rfl 23 _ rfl (gc) 1 rfl 45 (ctr c) (0, 0) (irow .u8 c.k) _ rl7 (ct_k c hcok.1.1) Tryd.underlying23 rfl (infoKy _ hcok.1.1) ?_) | (refine wpList_load_part rfl 23 _ rfl (gc) 33 rfl 45 (ctr c) (0, 0) (irow .u8 c.x) _ rl7 (ct_x c hcok.1.1 hcok.2.1) Tryd.underlying23 rfl (infoKy _ hcok.2.1) ?_) | fail)
    clear fc49 fc50 fc51 fc52
    go_ret
    exact CaR.still hu.out rfl hB hw
end Go.Proofs.YtlbcdjflcghkeaaDoor
