import Derived.Test.YtlbcdjflcghkeaaDoorProg
import Derived.WalkKit
import Derived.WalkSpells
import Derived.WalkLawsBesides
import Derived.Lib.QuietBelow
import Derived.BigQuiet
import Derived.OrdersHeld
import Derived.OwnWalk
import Derived.Deep.RegionHeld3
import Derived.Deep.Cut
import Derived.Deep.CutRange
import Derived.Deep.CutBlock
import Derived.Test.YtlbcdjflcghkeaaDoorTun
namespace Go.Proofs.YtlbcdjflcghkeaaDoor
set_option maxRecDepth 100000
open Go Go.RowKit Go.Sort
attribute [local go_sem] setCell_drewN alloc_drewN
set_option maxRecDepth 100000 in
set_option maxHeartbeats 8000000 in
theorem a_See (m : ByteArray) (hm : m.size ≤ 9223372036854775806) (k : List Int) (hk : K32 k) (b g : Nat) (ve vc : Value) (y : List Int) (es : List Ev) (cs : List Ct) (w : World) (hB : Bk w b g ve vc y es cs) : Calls Tryd.prog 7 #[.pointer (some ⟨g, 0, none⟩), .string m, .agg (irow .u8 k)] w (CaR b g ve vc y es cs (seR es cs m k) w) := by
  obtain ⟨ao, cap, rfl, hc1, hc2, hz1, hz2⟩ := hB.cts.sl
  obtain ⟨ae, ca, rfl, hc3, hc4, hz3, hz4⟩ := hB.evs.sl
  have hcl := hB.len
  have hcok := fnC_ok hB.cts.2 m
  have hst : (fnC cs m).s ≠ 0 → 1 ≤ (fnC cs m).s ∧ (fnC cs m).s ≤ 4 := fun q => by
    unfold fnC at q ⊢
    cases qq : fd cs m with
    | none => rw [qq] at q; exact absurd rfl q
    | some d => exact hB.sta d (fd_some qq).1
  have cF : ∀ W, Bk W b g (.slice ae es.length ca) (.slice ao cs.length cap) y es cs → Calls Tryd.prog 18 #[.slice ao cs.length cap, .string m] W fun e_ w' => e_ = .returned (.agg (ctr (fnC cs m))) ∧ Below W.heap.size W w' := fun W hW => a_find cs m b _ W hW.cts hW.srt (by omega)
  generalize hce : fnC cs m = c at *
  have rp0 := hp1_0 w (.cells (irow .u8 k) 23)
  have hw : Below w.heap.size w (w.alloc (.cells (irow .u8 k) 23)) := ((Below.refl _ _).alloc (Nat.le_refl _) _)
  replace hB := hB.keep hw
  go_enter Tryd.func7, Tryd.ntmps7
  go_upto_region 1 with (first | (refine wpList_box rfl 23 _ rfl _ rfl (bKy _) ?_) | fail)
  try simp only [size_alloc1]
  generalize (w.alloc (.cells (irow .u8 k) 23)) = w0 at *
  have fc19 := hB.ce
  have fc20 := hB.cc
  go_wp2_with (first | (refine wpList_load_part rfl 23 _ rfl (w.heap.size) 0 rfl 23 (irow .u8 k) (0, 0) (irow .u8 k) _ rp0 (all_rowe _) Tryd.underlying23 rfl (infoKy _ hk.1) ?_) | fail)
  clear fc19 fc20
  refine (a_isName m _ hm).mono ?_
  rintro e_ w1 ⟨rfl, hb⟩
  replace rp0 := keep hb rp0
  replace hB := hB.keep hb
  replace hw := Below.after hw hb
  clear hb
  generalize dNM : nam m = xNM at *
  cases xNM
  · skip
    have hu : Hid (seR es cs m k = (1, none)) := hide (by unfold seR; rw [if_pos dNM])
    have fc21 := hB.ce
    have fc22 := hB.cc
    go_wp2_with (first | (refine wpList_load_part rfl 23 _ rfl (w.heap.size) 0 rfl 23 (irow .u8 k) (0, 0) (irow .u8 k) _ rp0 (all_rowe _) Tryd.underlying23 rfl (infoKy _ hk.1) ?_) | fail)
    clear fc21 fc22
    go_ret
    exact CaR.still hu.out rfl hB hw
  · skip
    have nNM : ¬ nam m = false := by rw [dNM]; decide
    have fc23 := hB.ce
    have fc24 := hB.cc
    go_wp2_with (first | (refine wpList_load_part rfl 23 _ rfl (w.heap.size) 0 rfl 23 (irow .u8 k) (0, 0) (irow .u8 k) _ rp0 (all_rowe _) Tryd.underlying23 rfl (infoKy _ hk.1) ?_) | fail)
    clear fc23 fc24
    refine (cF _ hB).mono ?_
    rintro e_ w2 ⟨rfl, hb⟩
    replace rp0 := keep hb rp0
    replace hB := hB.keep hb
    replace hw := Below.after hw hb
    clear hb
    go_wp2_with (first | (refine wpList_store_row rfl 45 _ _ rfl (w2.heap.size) (ctr c) rfl rfl 45 (ctr zct) (hp1_0 w2 _) (ct_info _ hcok.1.1 hcok.2.1) ((ctr_size _ zct_ok.1.1 zct_ok.2.1).trans (ctr_size _ hcok.1.1 hcok.2.1).symm) (ctr_one _) ?_; rw [setRow_alloc_new _ _ _ _ _ _ (by simp)]; refine wpList_stay ?_) | (refine wpList_alloc rfl 45 rfl (ctr zct) zCt ?_) | fail)
    unfold WpStay
    try simp only [Act.put]
    have rl7 := hp1_0 w2 (.cells (ctr c) 45)
    have hb : Below w2.heap.size w2 (w2.alloc (.cells (ctr c) 45)) := (Below.refl _ _).alloc (Nat.le_refl _) _
    generalize (w2.alloc (.cells (ctr c) 45)) = w3 at *
    have lt_gc_0 := lt_of_row rp0
    have sz_gc := hw.size
    replace rp0 := keep hb rp0
    replace hB := hB.keep hb
    replace hw := Below.after hw hb
    clear hb
    generalize w2.heap.size = gc at *
    clear w2
    have eQ1 := eq_k k c.k hk.1 hcok.1.1
    have eQ2 := eq_k k c.x hk.1 hcok.2.1
    have aCL := a_calm c hcok
    generalize dS0 : (c.s == 0) = xS0 at *
    generalize dS4 : (c.s == 4) = xS4 at *
    generalize dCL : clm c = xCL at *
    generalize dS3 : (c.s == 3) = xS3 at *
    generalize dQ1 : decide (k = c.k) = xQ1 at *
    generalize dQ2 : decide (k = c.x) = xQ2 at *
    generalize dF : decide (64 ≤ cs.length) = xF
    generalize dR : decide (1024 ≤ es.length) = xR
    cases xS0
    · skip
      cases xS4
      · skip
        cases xCL
        · skip
          cases xS3
          · skip
            exfalso
            have pS0 : ¬ c.s = 0 := by simpa using dS0
            have pS4 : ¬ c.s = 4 := by simpa using dS4
            have pCL : clm c = false := dCL
            have pS3 : ¬ c.s = 3 := by simpa using dS3
            have := hst pS0
            unfold clm at pCL
            simp only [Bool.or_eq_false_iff, beq_eq_false_iff_ne, ne_eq] at pCL
            omega
          · skip
            cases xQ1
            · skip
              cases xQ2
              · skip
                cases xR
                · skip
                  have pS0 : ¬ c.s = 0 := by simpa using dS0
                  have pS4 : ¬ c.s = 4 := by simpa using dS4
                  have pCL : clm c = false := dCL
                  have pS3 : c.s = 3 := by simpa using dS3
                  have pQ1 : ¬ k = c.k := by simpa using dQ1
                  have pQ2 : ¬ k = c.x := by simpa using dQ2
                  have pR : ¬ 1024 ≤ es.length := by simpa using dR
                  have hu : Hid (seR es cs m k = (223, some ⟨2, m, k⟩)) := hide (by unfold seR; rw [if_neg nNM, hce]; rw [if_neg pS0]; rw [if_neg pS4]; rw [if_neg (fun h => absurd (pCL.symm.trans h.1) (by decide))]; rw [if_neg (fun h => h.2.elim pQ1 pQ2)]; unfold rm; rw [if_neg pR])
                  clear pCL
                  clear pQ1
                  clear pQ2
                  have fc25 := cell_at rl7 (ct_n c)
                  have fc26 := cell_at rl7 (ct_s c hcok.1.1 hcok.2.1)
                  have fc27 := hB.ce
                  have fc28 := hB.cc
                  go_wp2_with (first | (refine wpList_load_part rfl 23 _ rfl (w.heap.size) 0 rfl 23 (irow .u8 k) (0, 0) (irow .u8 k) _ rp0 (all_rowe _) Tryd.underlying23 rfl (infoKy _ hk.1) ?_) | (refine wpList_load_part rfl 45 _ rfl (gc) 0 rfl 45 (ctr c) (0, 0) (ctr c) _ rl7 (all_rowe _) Tryd.underlying45 rfl (ct_info _ hcok.1.1 hcok.2.1) ?_) | (refine wpList_load_part rfl 23 _ rfl (gc) 1 rfl 45 (ctr c) (0, 0) (irow .u8 c.k) _ rl7 (ct_k c hcok.1.1) Tryd.underlying23 rfl (infoKy _ hcok.1.1) ?_) | (refine wpList_load_part rfl 23 _ rfl (gc) 33 rfl 45 (ctr c) (0, 0) (irow .u8 c.x) _ rl7 (ct_x c hcok.1.1 hcok.2.1) Tryd.underlying23 rfl (infoKy _ hcok.2.1) ?_) | fail)
                  clear fc25 fc26 fc27 fc28
                  refine (aCL _).mono ?_
                  rintro e_ wy1 ⟨rfl, hb⟩
                  replace rp0 := keep hb rp0
                  replace rl7 := keep hb rl7
                  replace hB := hB.keep hb
                  replace hw := Below.after hw hb
                  clear hb
                  have fc29 := cell_at rl7 (ct_n c)
                  have fc30 := cell_at rl7 (ct_s c hcok.1.1 hcok.2.1)
                  have fc31 := hB.ce
                  have fc32 := hB.cc
                  go_wp2_with (first | (refine wpList_load_part rfl 23 _ rfl (w.heap.size) 0 rfl 23 (irow .u8 k) (0, 0) (irow .u8 k) _ rp0 (all_rowe _) Tryd.underlying23 rfl (infoKy _ hk.1) ?_) | (refine wpList_load_part rfl 45 _ rfl (gc) 0 rfl 45 (ctr c) (0, 0) (ctr c) _ rl7 (all_rowe _) Tryd.underlying45 rfl (ct_info _ hcok.1.1 hcok.2.1) ?_) | (refine wpList_load_part rfl 23 _ rfl (gc) 1 rfl 45 (ctr c) (0, 0) (irow .u8 c.k) _ rl7 (ct_k c hcok.1.1) Tryd.underlying23 rfl (infoKy _ hcok.1.1) ?_) | (refine wpList_load_part rfl 23 _ rfl (gc) 33 rfl 45 (ctr c) (0, 0) (irow .u8 c.x) _ rl7 (ct_x c hcok.1.1 hcok.2.1) Tryd.underlying23 rfl (infoKy _ hcok.2.1) ?_) | fail)
                  clear fc29 fc30 fc31 fc32
                  refine (add_go 2 (by decide) m hm k hk b g _ _ y es cs _ hB (by omega)).mono ?_
                  rintro e_ wz2 ⟨ve', vc', rfl, hB2, hN1, hN2, hF⟩
                  replace hN1 := hN1.of hw.size
                  replace hN2 := hN2.of hw.size
                  replace hF := (Fr.of hw).step hF (fun _ _ q => q)
                  go_wp2_with (fail)
                  go_ret
                  exact ⟨ve', vc', by rw [hu.out]; rfl, by rw [hu.out]; exact hB2, hN1, hN2, hF⟩
                · skip
                  have pS0 : ¬ c.s = 0 := by simpa using dS0
                  have pS4 : ¬ c.s = 4 := by simpa using dS4
                  have pCL : clm c = false := dCL
                  have pS3 : c.s = 3 := by simpa using dS3
                  have pQ1 : ¬ k = c.k := by simpa using dQ1
                  have pQ2 : ¬ k = c.x := by simpa using dQ2
                  have pR : 1024 ≤ es.length := by simpa using dR
                  have hu : Hid (seR es cs m k = (224, none)) := hide (by unfold seR; rw [if_neg nNM, hce]; rw [if_neg pS0]; rw [if_neg pS4]; rw [if_neg (fun h => absurd (pCL.symm.trans h.1) (by decide))]; rw [if_neg (fun h => h.2.elim pQ1 pQ2)]; unfold rm; rw [if_pos pR])
                  clear pCL
                  clear pQ1
                  clear pQ2
                  have fc33 := cell_at rl7 (ct_n c)
                  have fc34 := cell_at rl7 (ct_s c hcok.1.1 hcok.2.1)
                  have fc35 := hB.ce
                  have fc36 := hB.cc
                  go_wp2_with (first | (refine wpList_load_part rfl 23 _ rfl (w.heap.size) 0 rfl 23 (irow .u8 k) (0, 0) (irow .u8 k) _ rp0 (all_rowe _) Tryd.underlying23 rfl (infoKy _ hk.1) ?_) | (refine wpList_load_part rfl 45 _ rfl (gc) 0 rfl 45 (ctr c) (0, 0) (ctr c) _ rl7 (all_rowe _) Tryd.underlying45 rfl (ct_info _ hcok.1.1 hcok.2.1) ?_) | (refine wpList_load_part rfl 23 _ rfl (gc) 1 rfl 45 (ctr c) (0, 0) (irow .u8 c.k) _ rl7 (ct_k c hcok.1.1) Tryd.underlying23 rfl (infoKy _ hcok.1.1) ?_) | (refine wpList_load_part rfl 23 _ rfl (gc) 33 rfl 45 (ctr c) (0, 0) (irow .u8 c.x) _ rl7 (ct_x c hcok.1.1 hcok.2.1) Tryd.underlying23 rfl (infoKy _ hcok.2.1) ?_) | fail)
                  clear fc33 fc34 fc35 fc36
                  refine (aCL _).mono ?_
                  rintro e_ wy3 ⟨rfl, hb⟩
                  replace rp0 := keep hb rp0
                  replace rl7 := keep hb rl7
                  replace hB := hB.keep hb
                  replace hw := Below.after hw hb
                  clear hb
                  have fc37 := cell_at rl7 (ct_n c)
                  have fc38 := cell_at rl7 (ct_s c hcok.1.1 hcok.2.1)
                  have fc39 := hB.ce
                  have fc40 := hB.cc
                  go_wp2_with (first | (refine wpList_load_part rfl 23 _ rfl (w.heap.size) 0 rfl 23 (irow .u8 k) (0, 0) (irow .u8 k) _ rp0 (all_rowe _) Tryd.underlying23 rfl (infoKy _ hk.1) ?_) | (refine wpList_load_part rfl 45 _ rfl (gc) 0 rfl 45 (ctr c) (0, 0) (ctr c) _ rl7 (all_rowe _) Tryd.underlying45 rfl (ct_info _ hcok.1.1 hcok.2.1) ?_) | (refine wpList_load_part rfl 23 _ rfl (gc) 1 rfl 45 (ctr c) (0, 0) (irow .u8 c.k) _ rl7 (ct_k c hcok.1.1) Tryd.underlying23 rfl (infoKy _ hcok.1.1) ?_) | (refine wpList_load_part rfl 23 _ rfl (gc) 33 rfl 45 (ctr c) (0, 0) (irow .u8 c.x) _ rl7 (ct_x c hcok.1.1 hcok.2.1) Tryd.underlying23 rfl (infoKy _ hcok.2.1) ?_) | fail)
                  clear fc37 fc38 fc39 fc40
                  refine (add_no 2 (by decide) m hm k hk b g _ _ y es cs _ hB pR).mono ?_
                  rintro e_ wz4 ⟨rfl, hB9, hb⟩
                  replace rp0 := keep hb rp0
                  replace rl7 := keep hb rl7
                  replace hB := hB.keep hb
                  replace hw := Below.after hw hb
                  clear hb
                  clear hB9
                  go_wp2_with (fail)
                  go_ret
                  exact CaR.still hu.out rfl hB hw
              · skip
                have pS0 : ¬ c.s = 0 := by simpa using dS0
                have pS4 : ¬ c.s = 4 := by simpa using dS4
                have pCL : clm c = false := dCL
                have pS3 : c.s = 3 := by simpa using dS3
                have pQ1 : ¬ k = c.k := by simpa using dQ1
                have pQ2 : k = c.x := by simpa using dQ2
                have hu : Hid (seR es cs m k = (223, none)) := hide (by unfold seR; rw [if_neg nNM, hce]; rw [if_neg pS0]; rw [if_neg pS4]; rw [if_neg (fun h => absurd (pCL.symm.trans h.1) (by decide))]; rw [if_pos ⟨pS3, .inr pQ2⟩])
                clear pCL
                clear pQ1
                clear pQ2
                have fc41 := cell_at rl7 (ct_n c)
                have fc42 := cell_at rl7 (ct_s c hcok.1.1 hcok.2.1)
                have fc43 := hB.ce
                have fc44 := hB.cc
                go_wp2_with (first | (refine wpList_load_part rfl 23 _ rfl (w.heap.size) 0 rfl 23 (irow .u8 k) (0, 0) (irow .u8 k) _ rp0 (all_rowe _) Tryd.underlying23 rfl (infoKy _ hk.1) ?_) | (refine wpList_load_part rfl 45 _ rfl (gc) 0 rfl 45 (ctr c) (0, 0) (ctr c) _ rl7 (all_rowe _) Tryd.underlying45 rfl (ct_info _ hcok.1.1 hcok.2.1) ?_) | (refine wpList_load_part rfl 23 _ rfl (gc) 1 rfl 45 (ctr c) (0, 0) (irow .u8 c.k) _ rl7 (ct_k c hcok.1.1) Tryd.underlying23 rfl (infoKy _ hcok.1.1) ?_) | (refine wpList_load_part rfl 23 _ rfl (gc) 33 rfl 45 (ctr c) (0, 0) (irow .u8 c.x) _ rl7 (ct_x c hcok.1.1 hcok.2.1) Tryd.underlying23 rfl (infoKy _ hcok.2.1) ?_) | fail)
                clear fc41 fc42 fc43 fc44
                refine (aCL _).mono ?_
                rintro e_ wy5 ⟨rfl, hb⟩
                replace rp0 := keep hb rp0
                replace rl7 := keep hb rl7
                replace hB := hB.keep hb
                replace hw := Below.after hw hb
                clear hb
                have fc45 := cell_at rl7 (ct_n c)
                have fc46 := cell_at rl7 (ct_s c hcok.1.1 hcok.2.1)
                have fc47 := hB.ce
                have fc48 := hB.cc
                go_wp2_with (first | (refine wpList_load_part rfl 23 _ rfl (w.heap.size) 0 rfl 23 (irow .u8 k) (0, 0) (irow .u8 k) _ rp0 (all_rowe _) Tryd.underlying23 rfl (infoKy _ hk.1) ?_) | (refine wpList_load_part rfl 45 _ rfl (gc) 0 rfl 45 (ctr c) (0, 0) (ctr c) _ rl7 (all_rowe _) Tryd.underlying45 rfl (ct_info _ hcok.1.1 hcok.2.1) ?_) | (refine wpList_load_part rfl 23 _ rfl (gc) 1 rfl 45 (ctr c) (0, 0) (irow .u8 c.k) _ rl7 (ct_k c hcok.1.1) Tryd.underlying23 rfl (infoKy _ hcok.1.1) ?_) | (refine wpList_load_part rfl 23 _ rfl (gc) 33 rfl 45 (ctr c) (0, 0) (irow .u8 c.x) _ rl7 (ct_x c hcok.1.1 hcok.2.1) Tryd.underlying23 rfl (infoKy _ hcok.2.1) ?_) | fail)
                clear fc45 fc46 fc47 fc48
                go_ret
                exact CaR.still hu.out rfl hB hw
            · skip
              have pS0 : ¬ c.s = 0 := by simpa using dS0
              have pS4 : ¬ c.s = 4 := by simpa using dS4
              have pCL : clm c = false := dCL
              have pS3 : c.s = 3 := by simpa using dS3
              have pQ1 : k = c.k := by simpa using dQ1
              have hu : Hid (seR es cs m k = (223, none)) := hide (by unfold seR; rw [if_neg nNM, hce]; rw [if_neg pS0]; rw [if_neg pS4]; rw [if_neg (fun h => absurd (pCL.symm.trans h.1) (by decide))]; rw [if_pos ⟨pS3, .inl pQ1⟩])
              clear pCL
              clear pQ1
              have fc49 := cell_at rl7 (ct_n c)
              have fc50 := cell_at rl7 (ct_s c hcok.1.1 hcok.2.1)
              have fc51 := hB.ce
              have fc52 := hB.cc
              go_wp2_with (first | (refine wpList_load_part rfl 23 _ rfl (w.heap.size) 0 rfl 23 (irow .u8 k) (0, 0) (irow .u8 k) _ rp0 (all_rowe _) Tryd.underlying23 rfl (infoKy _ hk.1) ?_) | (refine wpList_load_part rfl 45 _ rfl (gc) 0 rfl 45 (ctr c) (0, 0) (ctr c) _ rl7 (all_rowe _) Tryd.underlying45 rfl (ct_info _ hcok.1.1 hcok.2.1) ?_) | (refine wpList_load_part rfl 23 _ rfl (gc) 1 rfl 45 (ctr c) (0, 0) (irow .u8 c.k) _ rl7 (ct_k c hcok.1.1) Tryd.underlying23 rfl (infoKy _ hcok.1.1) ?_) | (refine wpList_load_part rfl 23 _ rfl (gc) 33 rfl 45 (ctr c) (0, 0) (irow .u8 c.x) _ rl7 (ct_x c hcok.1.1 hcok.2.1) Tryd.underlying23 rfl (infoKy _ hcok.2.1) ?_) | fail)
              clear fc49 fc50 fc51 fc52
              refine (aCL _).mono ?_
              rintro e_ wy6 ⟨rfl, hb⟩
              replace rp0 := keep hb rp0
              replace rl7 := keep hb rl7
              replace hB := hB.keep hb
              replace hw := Below.after hw hb
              clear hb
              have fc53 := cell_at rl7 (ct_n c)
              have fc54 := cell_at rl7 (ct_s c hcok.1.1 hcok.2.1)
              have fc55 := hB.ce
              have fc56 := hB.cc
              go_upto_region 12 with (first | (refine wpList_load_part rfl 23 _ rfl (w.heap.size) 0 rfl 23 (irow .u8 k) (0, 0) (irow .u8 k) _ rp0 (all_rowe _) Tryd.underlying23 rfl (infoKy _ hk.1) ?_) | (refine wpList_load_part rfl 45 _ rfl (gc) 0 rfl 45 (ctr c) (0, 0) (ctr c) _ rl7 (all_rowe _) Tryd.underlying45 rfl (ct_info _ hcok.1.1 hcok.2.1) ?_) | (refine wpList_load_part rfl 23 _ rfl (gc) 1 rfl 45 (ctr c) (0, 0) (irow .u8 c.k) _ rl7 (ct_k c hcok.1.1) Tryd.underlying23 rfl (infoKy _ hcok.1.1) ?_) | (refine wpList_load_part rfl 23 _ rfl (gc) 33 rfl 45 (ctr c) (0, 0) (irow .u8 c.x) _ rl7 (ct_x c hcok.1.1 hcok.2.1) Tryd.underlying23 rfl (infoKy _ hcok.2.1) ?_) | fail)
              repeat ((fail_if_success (refine wpList_load_part rfl 23 _ rfl (w.heap.size) 0 rfl 23 (irow .u8 k) (0, 0) (irow .u8 k) _ rp0 (all_rowe _) Tryd.underlying23 rfl (infoKy _ hk.1) ?_)); first | go_skip | go_step)
              refine wpList_load_part rfl 23 _ rfl (w.heap.size) 0 rfl 23 (irow .u8 k) (0, 0) (irow .u8 k) _ rp0 (all_rowe _) Tryd.underlying23 rfl (infoKy _ hk.1) ?_
              repeat ((fail_if_success (refine wpList_load_part rfl 23 _ rfl (gc) 1 rfl 45 (ctr c) (0, 0) (irow .u8 c.k) _ rl7 (ct_k c hcok.1.1) Tryd.underlying23 rfl (infoKy _ hcok.1.1) ?_)); first | go_skip | go_step)
              refine wpList_load_part rfl 23 _ rfl (gc) 1 rfl 45 (ctr c) (0, 0) (irow .u8 c.k) _ rl7 (ct_k c hcok.1.1) Tryd.underlying23 rfl (infoKy _ hcok.1.1) ?_
              iterate 12 (first | go_skip | go_step)
              go_wp2_with (first | (refine wpList_load_part rfl 23 _ rfl (w.heap.size) 0 rfl 23 (irow .u8 k) (0, 0) (irow .u8 k) _ rp0 (all_rowe _) Tryd.underlying23 rfl (infoKy _ hk.1) ?_) | (refine wpList_load_part rfl 45 _ rfl (gc) 0 rfl 45 (ctr c) (0, 0) (ctr c) _ rl7 (all_rowe _) Tryd.underlying45 rfl (ct_info _ hcok.1.1 hcok.2.1) ?_) | (refine wpList_load_part rfl 23 _ rfl (gc) 1 rfl 45 (ctr c) (0, 0) (irow .u8 c.k) _ rl7 (ct_k c hcok.1.1) Tryd.underlying23 rfl (infoKy _ hcok.1.1) ?_) | (refine wpList_load_part rfl 23 _ rfl (gc) 33 rfl 45 (ctr c) (0, 0) (irow .u8 c.x) _ rl7 (ct_x c hcok.1.1 hcok.2.1) Tryd.underlying23 rfl (infoKy _ hcok.2.1) ?_) | fail)
              clear fc53 fc54 fc55 fc56
              go_ret
              exact CaR.still hu.out rfl hB hw
        · skip
          cases xS3
          · skip
            cases xQ1
            · skip
              cases xR
              · skip
                have pS0 : ¬ c.s = 0 := by simpa using dS0
                have pS4 : ¬ c.s = 4 := by simpa using dS4
                have pCL : clm c = true := dCL
                have pS3 : ¬ c.s = 3 := by simpa using dS3
                have pQ1 : ¬ k = c.k := by simpa using dQ1
                have pR : ¬ 1024 ≤ es.length := by simpa using dR
                have hu : Hid (seR es cs m k = (223, some ⟨2, m, k⟩)) := hide (by unfold seR; rw [if_neg nNM, hce]; rw [if_neg pS0]; rw [if_neg pS4]; rw [if_neg (fun h => pQ1 h.2)]; rw [if_neg (fun h => pS3 h.1)]; unfold rm; rw [if_neg pR])
                clear pCL
                clear pQ1
                have fc57 := cell_at rl7 (ct_n c)
                have fc58 := cell_at rl7 (ct_s c hcok.1.1 hcok.2.1)
                have fc59 := hB.ce
                have fc60 := hB.cc
                go_wp2_with (first | (refine wpList_load_part rfl 23 _ rfl (w.heap.size) 0 rfl 23 (irow .u8 k) (0, 0) (irow .u8 k) _ rp0 (all_rowe _) Tryd.underlying23 rfl (infoKy _ hk.1) ?_) | (refine wpList_load_part rfl 45 _ rfl (gc) 0 rfl 45 (ctr c) (0, 0) (ctr c) _ rl7 (all_rowe _) Tryd.underlying45 rfl (ct_info _ hcok.1.1 hcok.2.1) ?_) | (refine wpList_load_part rfl 23 _ rfl (gc) 1 rfl 45 (ctr c) (0, 0) (irow .u8 c.k) _ rl7 (ct_k c hcok.1.1) Tryd.underlying23 rfl (infoKy _ hcok.1.1) ?_) | (refine wpList_load_part rfl 23 _ rfl (gc) 33 rfl 45 (ctr c) (0, 0) (irow .u8 c.x) _ rl7 (ct_x c hcok.1.1 hcok.2.1) Tryd.underlying23 rfl (infoKy _ hcok.2.1) ?_) | fail)
                clear fc57 fc58 fc59 fc60
                refine (aCL _).mono ?_
                rintro e_ wy7 ⟨rfl, hb⟩
                replace rp0 := keep hb rp0
                replace rl7 := keep hb rl7
                replace hB := hB.keep hb
                replace hw := Below.after hw hb
                clear hb
                have fc61 := cell_at rl7 (ct_n c)
                have fc62 := cell_at rl7 (ct_s c hcok.1.1 hcok.2.1)
                have fc63 := hB.ce
                have fc64 := hB.cc
                go_upto_region 12 with (first | (refine wpList_load_part rfl 23 _ rfl (w.heap.size) 0 rfl 23 (irow .u8 k) (0, 0) (irow .u8 k) _ rp0 (all_rowe _) Tryd.underlying23 rfl (infoKy _ hk.1) ?_) | (refine wpList_load_part rfl 45 _ rfl (gc) 0 rfl 45 (ctr c) (0, 0) (ctr c) _ rl7 (all_rowe _) Tryd.underlying45 rfl (ct_info _ hcok.1.1 hcok.2.1) ?_) | (refine wpList_load_part rfl 23 _ rfl (gc) 1 rfl 45 (ctr c) (0, 0) (irow .u8 c.k) _ rl7 (ct_k c hcok.1.1) Tryd.underlying23 rfl (infoKy _ hcok.1.1) ?_) | (refine wpList_load_part rfl 23 _ rfl (gc) 33 rfl 45 (ctr c) (0, 0) (irow .u8 c.x) _ rl7 (ct_x c hcok.1.1 hcok.2.1) Tryd.underlying23 rfl (infoKy _ hcok.2.1) ?_) | fail)
                iterate 17 (first | go_skip | go_step)
                go_wp2_with (first | (refine wpList_load_part rfl 23 _ rfl (w.heap.size) 0 rfl 23 (irow .u8 k) (0, 0) (irow .u8 k) _ rp0 (all_rowe _) Tryd.underlying23 rfl (infoKy _ hk.1) ?_) | (refine wpList_load_part rfl 45 _ rfl (gc) 0 rfl 45 (ctr c) (0, 0) (ctr c) _ rl7 (all_rowe _) Tryd.underlying45 rfl (ct_info _ hcok.1.1 hcok.2.1) ?_) | (refine wpList_load_part rfl 23 _ rfl (gc) 1 rfl 45 (ctr c) (0, 0) (irow .u8 c.k) _ rl7 (ct_k c hcok.1.1) Tryd.underlying23 rfl (infoKy _ hcok.1.1) ?_) | (refine wpList_load_part rfl 23 _ rfl (gc) 33 rfl 45 (ctr c) (0, 0) (irow .u8 c.x) _ rl7 (ct_x c hcok.1.1 hcok.2.1) Tryd.underlying23 rfl (infoKy _ hcok.2.1) ?_) | fail)
                clear fc61 fc62 fc63 fc64
                refine (add_go 2 (by decide) m hm k hk b g _ _ y es cs _ hB (by omega)).mono ?_
                rintro e_ wz8 ⟨ve', vc', rfl, hB2, hN1, hN2, hF⟩
                replace hN1 := hN1.of hw.size
                replace hN2 := hN2.of hw.size
                replace hF := (Fr.of hw).step hF (fun _ _ q => q)
                go_wp2_with (fail)
                go_ret
                exact ⟨ve', vc', by rw [hu.out]; rfl, by rw [hu.out]; exact hB2, hN1, hN2, hF⟩
              · skip
                have pS0 : ¬ c.s = 0 := by simpa using dS0
                have pS4 : ¬ c.s = 4 := by simpa using dS4
                have pCL : clm c = true := dCL
                have pS3 : ¬ c.s = 3 := by simpa using dS3
                have pQ1 : ¬ k = c.k := by simpa using dQ1
                have pR : 1024 ≤ es.length := by simpa using dR
                have hu : Hid (seR es cs m k = (224, none)) := hide (by unfold seR; rw [if_neg nNM, hce]; rw [if_neg pS0]; rw [if_neg pS4]; rw [if_neg (fun h => pQ1 h.2)]; rw [if_neg (fun h => pS3 h.1)]; unfold rm; rw [if_pos pR])
                clear pCL
                clear pQ1
                have fc65 := cell_at rl7 (ct_n c)
                have fc66 := cell_at rl7 (ct_s c hcok.1.1 hcok.2.1)
                have fc67 := hB.ce
                have fc68 := hB.cc
                go_wp2_with (first | (refine wpList_load_part rfl 23 _ rfl (w.heap.size) 0 rfl 23 (irow .u8 k) (0, 0) (irow .u8 k) _ rp0 (all_rowe _) Tryd.underlying23 rfl (infoKy _ hk.1) ?_) | (refine wpList_load_part rfl 45 _ rfl (gc) 0 rfl 45 (ctr c) (0, 0) (ctr c) _ rl7 (all_rowe _) Tryd.underlying45 rfl (ct_info _ hcok.1.1 hcok.2.1) ?_) | (refine wpList_load_part rfl 23 _ rfl (gc) 1 rfl 45 (ctr c) (0, 0) (irow .u8 c.k) _ rl7 (ct_k c hcok.1.1) Tryd.underlying23 rfl (infoKy _ hcok.1.1) ?_) | (refine wpList_load_part rfl 23 _ rfl (gc) 33 rfl 45 (ctr c) (0, 0) (irow .u8 c.x) _ rl7 (ct_x c hcok.1.1 hcok.2.1) Tryd.underlying23 rfl (infoKy _ hcok.2.1) ?_) | fail)
                clear fc65 fc66 fc67 fc68
                refine (aCL _).mono ?_
                rintro e_ wy9 ⟨rfl, hb⟩
                replace rp0 := keep hb rp0
                replace rl7 := keep hb rl7
                replace hB := hB.keep hb
                replace hw := Below.after hw hb
                clear hb
                have fc69 := cell_at rl7 (ct_n c)
                have fc70 := cell_at rl7 (ct_s c hcok.1.1 hcok.2.1)
                have fc71 := hB.ce
                have fc72 := hB.cc
                go_upto_region 12 with (first | (refine wpList_load_part rfl 23 _ rfl (w.heap.size) 0 rfl 23 (irow .u8 k) (0, 0) (irow .u8 k) _ rp0 (all_rowe _) Tryd.underlying23 rfl (infoKy _ hk.1) ?_) | (refine wpList_load_part rfl 45 _ rfl (gc) 0 rfl 45 (ctr c) (0, 0) (ctr c) _ rl7 (all_rowe _) Tryd.underlying45 rfl (ct_info _ hcok.1.1 hcok.2.1) ?_) | (refine wpList_load_part rfl 23 _ rfl (gc) 1 rfl 45 (ctr c) (0, 0) (irow .u8 c.k) _ rl7 (ct_k c hcok.1.1) Tryd.underlying23 rfl (infoKy _ hcok.1.1) ?_) | (refine wpList_load_part rfl 23 _ rfl (gc) 33 rfl 45 (ctr c) (0, 0) (irow .u8 c.x) _ rl7 (ct_x c hcok.1.1 hcok.2.1) Tryd.underlying23 rfl (infoKy _ hcok.2.1) ?_) | fail)
                iterate 17 (first | go_skip | go_step)
                go_wp2_with (first | (refine wpList_load_part rfl 23 _ rfl (w.heap.size) 0 rfl 23 (irow .u8 k) (0, 0) (irow .u8 k) _ rp0 (all_rowe _) Tryd.underlying23 rfl (infoKy _ hk.1) ?_) | (refine wpList_load_part rfl 45 _ rfl (gc) 0 rfl 45 (ctr c) (0, 0) (ctr c) _ rl7 (all_rowe _) Tryd.underlying45 rfl (ct_info _ hcok.1.1 hcok.2.1) ?_) | (refine wpList_load_part rfl 23 _ rfl (gc) 1 rfl 45 (ctr c) (0, 0) (irow .u8 c.k) _ rl7 (ct_k c hcok.1.1) Tryd.underlying23 rfl (infoKy _ hcok.1.1) ?_) | (refine wpList_load_part rfl 23 _ rfl (gc) 33 rfl 45 (ctr c) (0, 0) (irow .u8 c.x) _ rl7 (ct_x c hcok.1.1 hcok.2.1) Tryd.underlying23 rfl (infoKy _ hcok.2.1) ?_) | fail)
                clear fc69 fc70 fc71 fc72
                refine (add_no 2 (by decide) m hm k hk b g _ _ y es cs _ hB pR).mono ?_
                rintro e_ wz10 ⟨rfl, hB9, hb⟩
                replace rp0 := keep hb rp0
                replace rl7 := keep hb rl7
                replace hB := hB.keep hb
                replace hw := Below.after hw hb
                clear hb
                clear hB9
                go_wp2_with (fail)
                go_ret
                exact CaR.still hu.out rfl hB hw
            · skip
              have pS0 : ¬ c.s = 0 := by simpa using dS0
              have pS4 : ¬ c.s = 4 := by simpa using dS4
              have pCL : clm c = true := dCL
              have pS3 : ¬ c.s = 3 := by simpa using dS3
              have pQ1 : k = c.k := by simpa using dQ1
              have hu : Hid (seR es cs m k = (0, none)) := hide (by unfold seR; rw [if_neg nNM, hce]; rw [if_neg pS0]; rw [if_neg pS4]; rw [if_pos ⟨pCL, pQ1⟩])
              clear pCL
              clear pQ1
              have fc73 := cell_at rl7 (ct_n c)
              have fc74 := cell_at rl7 (ct_s c hcok.1.1 hcok.2.1)
              have fc75 := hB.ce
              have fc76 := hB.cc
              go_wp2_with (first | (refine wpList_load_part rfl 23 _ rfl (w.heap.size) 0 rfl 23 (irow .u8 k) (0, 0) (irow .u8 k) _ rp0 (all_rowe _) Tryd.underlying23 rfl (infoKy _ hk.1) ?_) | (refine wpList_load_part rfl 45 _ rfl (gc) 0 rfl 45 (ctr c) (0, 0) (ctr c) _ rl7 (all_rowe _) Tryd.underlying45 rfl (ct_info _ hcok.1.1 hcok.2.1) ?_) | (refine wpList_load_part rfl 23 _ rfl (gc) 1 rfl 45 (ctr c) (0, 0) (irow .u8 c.k) _ rl7 (ct_k c hcok.1.1) Tryd.underlying23 rfl (infoKy _ hcok.1.1) ?_) | (refine wpList_load_part rfl 23 _ rfl (gc) 33 rfl 45 (ctr c) (0, 0) (irow .u8 c.x) _ rl7 (ct_x c hcok.1.1 hcok.2.1) Tryd.underlying23 rfl (infoKy _ hcok.2.1) ?_) | fail)
              clear fc73 fc74 fc75 fc76
              refine (aCL _).mono ?_
              rintro e_ wy11 ⟨rfl, hb⟩
              replace rp0 := keep hb rp0
              replace rl7 := keep hb rl7
              replace hB := hB.keep hb
              replace hw := Below.after hw hb
              clear hb
              have fc77 := cell_at rl7 (ct_n c)
              have fc78 := cell_at rl7 (ct_s c hcok.1.1 hcok.2.1)
              have fc79 := hB.ce
              have fc80 := hB.cc
              go_wp2_with (first | (refine wpList_load_part rfl 23 _ rfl (w.heap.size) 0 rfl 23 (irow .u8 k) (0, 0) (irow .u8 k) _ rp0 (all_rowe _) Tryd.underlying23 rfl (infoKy _ hk.1) ?_) | (refine wpList_load_part rfl 45 _ rfl (gc) 0 rfl 45 (ctr c) (0, 0) (ctr c) _ rl7 (all_rowe _) Tryd.underlying45 rfl (ct_info _ hcok.1.1 hcok.2.1) ?_) | (refine wpList_load_part rfl 23 _ rfl (gc) 1 rfl 45 (ctr c) (0, 0) (irow .u8 c.k) _ rl7 (ct_k c hcok.1.1) Tryd.underlying23 rfl (infoKy _ hcok.1.1) ?_) | (refine wpList_load_part rfl 23 _ rfl (gc) 33 rfl 45 (ctr c) (0, 0) (irow .u8 c.x) _ rl7 (ct_x c hcok.1.1 hcok.2.1) Tryd.underlying23 rfl (infoKy _ hcok.2.1) ?_) | fail)
              clear fc77 fc78 fc79 fc80
              go_ret
              exact CaR.still hu.out rfl hB hw
          · skip
            exfalso
            have pS0 : ¬ c.s = 0 := by simpa using dS0
            have pS4 : ¬ c.s = 4 := by simpa using dS4
            have pCL : clm c = true := dCL
            have pS3 : c.s = 3 := by simpa using dS3
            have := hst pS0
            unfold clm at pCL
            simp only [Bool.or_eq_true, beq_iff_eq] at pCL
            omega
      · skip
        have pS0 : ¬ c.s = 0 := by simpa using dS0
        have pS4 : c.s = 4 := by simpa using dS4
        have hu : Hid (seR es cs m k = (222, none)) := hide (by unfold seR; rw [if_neg nNM, hce]; rw [if_neg pS0]; rw [if_pos pS4])
        have fc81 := cell_at rl7 (ct_n c)
        have fc82 := cell_at rl7 (ct_s c hcok.1.1 hcok.2.1)
        have fc83 := hB.ce
        have fc84 := hB.cc
        go_wp2_with (first | (refine wpList_load_part rfl 23 _ rfl (w.heap.size) 0 rfl 23 (irow .u8 k) (0, 0) (irow .u8 k) _ rp0 (all_rowe _) Tryd.underlying23 rfl (infoKy _ hk.1) ?_) | (refine wpList_load_part rfl 45 _ rfl (gc) 0 rfl 45 (ctr c) (0, 0) (ctr c) _ rl7 (all_rowe _) Tryd.underlying45 rfl (ct_info _ hcok.1.1 hcok.2.1) ?_) | (refine wpList_load_part rfl 23 _ rfl (gc) 1 rfl 45 (ctr c) (0, 0) (irow .u8 c.k) _ rl7 (ct_k c hcok.1.1) Tryd.underlying23 rfl (infoKy _ hcok.1.1) ?_) | (refine wpList_load_part rfl 23 _ rfl (gc) 33 rfl 45 (ctr c) (0, 0) (irow .u8 c.x) _ rl7 (ct_x c hcok.1.1 hcok.2.1) Tryd.underlying23 rfl (infoKy _ hcok.2.1) ?_) | fail)
        clear fc81 fc82 fc83 fc84
        go_ret
        exact CaR.still hu.out rfl hB hw
    · skip
      cases xF
      · skip
        cases xR
        · skip
          have pS0 : c.s = 0 := by simpa using dS0
          have pF : ¬ 64 ≤ cs.length := by simpa using dF
          have pR : ¬ 1024 ≤ es.length := by simpa using dR
          have hu : Hid (seR es cs m k = (0, some ⟨1, m, k⟩)) := hide (by unfold seR; rw [if_neg nNM, hce]; rw [if_pos pS0]; rw [if_neg pF]; unfold rm; rw [if_neg pR])
          have fc85 := cell_at rl7 (ct_n c)
          have fc86 := cell_at rl7 (ct_s c hcok.1.1 hcok.2.1)
          have fc87 := hB.ce
          have fc88 := hB.cc
          go_wp2_with (first | (refine wpList_load_part rfl 23 _ rfl (w.heap.size) 0 rfl 23 (irow .u8 k) (0, 0) (irow .u8 k) _ rp0 (all_rowe _) Tryd.underlying23 rfl (infoKy _ hk.1) ?_) | (refine wpList_load_part rfl 45 _ rfl (gc) 0 rfl 45 (ctr c) (0, 0) (ctr c) _ rl7 (all_rowe _) Tryd.underlying45 rfl (ct_info _ hcok.1.1 hcok.2.1) ?_) | (refine wpList_load_part rfl 23 _ rfl (gc) 1 rfl 45 (ctr c) (0, 0) (irow .u8 c.k) _ rl7 (ct_k c hcok.1.1) Tryd.underlying23 rfl (infoKy _ hcok.1.1) ?_) | (refine wpList_load_part rfl 23 _ rfl (gc) 33 rfl 45 (ctr c) (0, 0) (irow .u8 c.x) _ rl7 (ct_x c hcok.1.1 hcok.2.1) Tryd.underlying23 rfl (infoKy _ hcok.2.1) ?_) | fail)
          clear fc85 fc86 fc87 fc88
          refine (a_full cs b _ _ hB.cts).mono ?_
          rintro e_ wy12 ⟨rfl, hb⟩
          replace rp0 := keep hb rp0
          replace rl7 := keep hb rl7
          replace hB := hB.keep hb
          replace hw := Below.after hw hb
          clear hb
          have fc89 := cell_at rl7 (ct_n c)
          have fc90 := cell_at rl7 (ct_s c hcok.1.1 hcok.2.1)
          have fc91 := hB.ce
          have fc92 := hB.cc
          go_wp2_with (first | (refine wpList_load_part rfl 23 _ rfl (w.heap.size) 0 rfl 23 (irow .u8 k) (0, 0) (irow .u8 k) _ rp0 (all_rowe _) Tryd.underlying23 rfl (infoKy _ hk.1) ?_) | (refine wpList_load_part rfl 45 _ rfl (gc) 0 rfl 45 (ctr c) (0, 0) (ctr c) _ rl7 (all_rowe _) Tryd.underlying45 rfl (ct_info _ hcok.1.1 hcok.2.1) ?_) | (refine wpList_load_part rfl 23 _ rfl (gc) 1 rfl 45 (ctr c) (0, 0) (irow .u8 c.k) _ rl7 (ct_k c hcok.1.1) Tryd.underlying23 rfl (infoKy _ hcok.1.1) ?_) | (refine wpList_load_part rfl 23 _ rfl (gc) 33 rfl 45 (ctr c) (0, 0) (irow .u8 c.x) _ rl7 (ct_x c hcok.1.1 hcok.2.1) Tryd.underlying23 rfl (infoKy _ hcok.2.1) ?_) | fail)
          clear fc89 fc90 fc91 fc92
          refine (add_go 1 (by decide) m hm k hk b g _ _ y es cs _ hB (by omega)).mono ?_
          rintro e_ wz13 ⟨ve', vc', rfl, hB2, hN1, hN2, hF⟩
          replace hN1 := hN1.of hw.size
          replace hN2 := hN2.of hw.size
          replace hF := (Fr.of hw).step hF (fun _ _ q => q)
          go_wp2_with (fail)
          go_ret
          exact ⟨ve', vc', by rw [hu.out]; rfl, by rw [hu.out]; exact hB2, hN1, hN2, hF⟩
        · skip
          have pS0 : c.s = 0 := by simpa using dS0
          have pF : ¬ 64 ≤ cs.length := by simpa using dF
          have pR : 1024 ≤ es.length := by simpa using dR
          have hu : Hid (seR es cs m k = (224, none)) := hide (by unfold seR; rw [if_neg nNM, hce]; rw [if_pos pS0]; rw [if_neg pF]; unfold rm; rw [if_pos pR])
          have fc93 := cell_at rl7 (ct_n c)
          have fc94 := cell_at rl7 (ct_s c hcok.1.1 hcok.2.1)
          have fc95 := hB.ce
          have fc96 := hB.cc
          go_wp2_with (first | (refine wpList_load_part rfl 23 _ rfl (w.heap.size) 0 rfl 23 (irow .u8 k) (0, 0) (irow .u8 k) _ rp0 (all_rowe _) Tryd.underlying23 rfl (infoKy _ hk.1) ?_) | (refine wpList_load_part rfl 45 _ rfl (gc) 0 rfl 45 (ctr c) (0, 0) (ctr c) _ rl7 (all_rowe _) Tryd.underlying45 rfl (ct_info _ hcok.1.1 hcok.2.1) ?_) | (refine wpList_load_part rfl 23 _ rfl (gc) 1 rfl 45 (ctr c) (0, 0) (irow .u8 c.k) _ rl7 (ct_k c hcok.1.1) Tryd.underlying23 rfl (infoKy _ hcok.1.1) ?_) | (refine wpList_load_part rfl 23 _ rfl (gc) 33 rfl 45 (ctr c) (0, 0) (irow .u8 c.x) _ rl7 (ct_x c hcok.1.1 hcok.2.1) Tryd.underlying23 rfl (infoKy _ hcok.2.1) ?_) | fail)
          clear fc93 fc94 fc95 fc96
          refine (a_full cs b _ _ hB.cts).mono ?_
          rintro e_ wy14 ⟨rfl, hb⟩
          replace rp0 := keep hb rp0
          replace rl7 := keep hb rl7
          replace hB := hB.keep hb
          replace hw := Below.after hw hb
          clear hb
          have fc97 := cell_at rl7 (ct_n c)
          have fc98 := cell_at rl7 (ct_s c hcok.1.1 hcok.2.1)
          have fc99 := hB.ce
          have fc100 := hB.cc
          go_wp2_with (first | (refine wpList_load_part rfl 23 _ rfl (w.heap.size) 0 rfl 23 (irow .u8 k) (0, 0) (irow .u8 k) _ rp0 (all_rowe _) Tryd.underlying23 rfl (infoKy _ hk.1) ?_) | (refine wpList_load_part rfl 45 _ rfl (gc) 0 rfl 45 (ctr c) (0, 0) (ctr c) _ rl7 (all_rowe _) Tryd.underlying45 rfl (ct_info _ hcok.1.1 hcok.2.1) ?_) | (refine wpList_load_part rfl 23 _ rfl (gc) 1 rfl 45 (ctr c) (0, 0) (irow .u8 c.k) _ rl7 (ct_k c hcok.1.1) Tryd.underlying23 rfl (infoKy _ hcok.1.1) ?_) | (refine wpList_load_part rfl 23 _ rfl (gc) 33 rfl 45 (ctr c) (0, 0) (irow .u8 c.x) _ rl7 (ct_x c hcok.1.1 hcok.2.1) Tryd.underlying23 rfl (infoKy _ hcok.2.1) ?_) | fail)
          clear fc97 fc98 fc99 fc100
          refine (add_no 1 (by decide) m hm k hk b g _ _ y es cs _ hB pR).mono ?_
          rintro e_ wz15 ⟨rfl, hB9, hb⟩
          replace rp0 := keep hb rp0
          replace rl7 := keep hb rl7
          replace hB := hB.keep hb
          replace hw := Below.after hw hb
          clear hb
          clear hB9
          go_wp2_with (fail)
          go_ret
          exact CaR.still hu.out rfl hB hw
      · skip
        have pS0 : c.s = 0 := by simpa using dS0
        have pF : 64 ≤ cs.length := by simpa using dF
        have hu : Hid (seR es cs m k = (224, none)) := hide (by unfold seR; rw [if_neg nNM, hce]; rw [if_pos pS0]; rw [if_pos pF])
        have fc101 := cell_at rl7 (ct_n c)
        have fc102 := cell_at rl7 (ct_s c hcok.1.1 hcok.2.1)
        have fc103 := hB.ce
        have fc104 := hB.cc
        go_wp2_with (first | (refine wpList_load_part rfl 23 _ rfl (w.heap.size) 0 rfl 23 (irow .u8 k) (0, 0) (irow .u8 k) _ rp0 (all_rowe _) Tryd.underlying23 rfl (infoKy _ hk.1) ?_) | (refine wpList_load_part rfl 45 _ rfl (gc) 0 rfl 45 (ctr c) (0, 0) (ctr c) _ rl7 (all_rowe _) Tryd.underlying45 rfl (ct_info _ hcok.1.1 hcok.2.1) ?_) | (refine wpList_load_part rfl 23 _ rfl (gc) 1 rfl 45 (ctr c) (0, 0) (irow .u8 c.k) _ rl7 (ct_k c hcok.1.1) Tryd.underlying23 rfl (infoKy _ hcok.1.1) ?_) | (refine wpList_load_part rfl 23 _ rfl (gc) 33 rfl 45 (ctr c) (0, 0) (irow .u8 c.x) _ rl7 (ct_x c hcok.1.1 hcok.2.1) Tryd.underlying23 rfl (infoKy _ hcok.2.1) ?_) | fail)
        clear fc101 fc102 fc103 fc104
        refine (a_full cs b _ _ hB.cts).mono ?_
        rintro e_ wy16 ⟨rfl, hb⟩
        replace rp0 := keep hb rp0
        replace rl7 := keep hb rl7
        replace hB := hB.keep hb
        replace hw := Below.after hw hb
        clear hb
        have fc105 := cell_at rl7 (ct_n c)
        have fc106 := cell_at rl7 (ct_s c hcok.1.1 hcok.2.1)
        have fc107 := hB.ce
        have fc108 := hB.cc
        go_wp2_with (first | (refine wpList_load_part rfl 23 _ rfl (w.heap.size) 0 rfl 23 (irow .u8 k) (0, 0) (irow .u8 k) _ rp0 (all_rowe _) Tryd.underlying23 rfl (infoKy _ hk.1) ?_) | (refine wpList_load_part rfl 45 _ rfl (gc) 0 rfl 45 (ctr c) (0, 0) (ctr c) _ rl7 (all_rowe _) Tryd.underlying45 rfl (ct_info _ hcok.1.1 hcok.2.1) ?_) | (refine wpList_load_part rfl 23 _ rfl (gc) 1 rfl 45 (ctr c) (0, 0) (irow .u8 c.k) _ rl7 (ct_k c hcok.1.1) Tryd.underlying23 rfl (infoKy _ hcok.1.1) ?_) | (refine wpList_load_part rfl 23 _ rfl (gc) 33 rfl 45 (ctr c) (0, 0) (irow .u8 c.x) _ rl7 (ct_x c hcok.1.1 hcok.2.1) Tryd.underlying23 rfl (infoKy _ hcok.2.1) ?_) | fail)
        clear fc105 fc106 fc107 fc108
        go_ret
        exact CaR.still hu.out rfl hB hw
end Go.Proofs.YtlbcdjflcghkeaaDoor
