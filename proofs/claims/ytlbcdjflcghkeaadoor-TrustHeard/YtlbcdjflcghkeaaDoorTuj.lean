import Derived.Test.YtlbcdjflcghkeaaDoorProg
import Derived.WalkKit
import Derived.WalkSpells
import Derived.WalkLawsBesides
import Derived.Lib.QuietBelow
import Derived.BigQuiet
import Derived.OrdersHeld
import Derived.OwnWalk
import Derived.Deep.RegionHeld3
import Derived.Deep.Cut
import Derived.Deep.CutRange
import Derived.Deep.CutBlock
import Derived.Test.YtlbcdjflcghkeaaDoorTui
namespace Go.Proofs.YtlbcdjflcghkeaaDoor
set_option maxRecDepth 100000
open Go Go.RowKit Go.Sort
attribute [local go_sem] setCell_drewN alloc_drewN
set_option maxRecDepth 100000 in
set_option maxHeartbeats 8000000 in
theorem a_up2 (e : Ev) (he : e.ok) (b g : Nat) (ve vc : Value) (y : List Int) (es : List Ev) (cs : List Ct) (w : World) (hB : Bk w b g ve vc y es cs) : Calls Tryd.prog 48 #[.pointer (some ⟨g, 33, none⟩), .agg (evr e)] w fun en w' => en = .returned (.bool (up2 (fnC cs e.n) e).isSome) ∧ Bk w' b g ve vc y es ((puO cs (up2 (fnC cs e.n) e)).getD cs) ∧ Fr (ownB g ve vc) w w' := by
  have hkey := hB.key.1
  have hcl := hB.len
  have hcok := fnC_ok hB.cts.2 e.n
  have hst : (fnC cs e.n).s ≠ 0 → 1 ≤ (fnC cs e.n).s ∧ (fnC cs e.n).s ≤ 4 := fun q => by
    unfold fnC at q ⊢
    cases qq : fd cs e.n with
    | none => rw [qq] at q; exact absurd rfl q
    | some d => exact hB.sta d (fd_some qq).1
  obtain ⟨ao, cap, rfl, hc1, hc2, hz1, hz2⟩ := hB.cts.sl
  obtain ⟨ae, ca, rfl, hc3, hc4, hz3, hz4⟩ := hB.evs.sl
  have cF : ∀ W, Below w.heap.size w W → Calls Tryd.prog 18 #[.slice ao cs.length cap, .string e.n] W fun e_ w' => e_ = .returned (.agg (ctr (fnC cs e.n))) ∧ Below W.heap.size W w' := fun W hW => a_find cs e.n b _ W (hB.keep hW).cts hB.srt (by omega)
  have hnm : (fnC cs e.n).s ≠ 0 → th cs e.n = true ∧ (fnC cs e.n).n = e.n := fnC_name
  generalize hce : fnC cs e.n = c at *
  have hgw := lt_of_row hB.row
  have hle1 : ∀ k, (Value.slice ae es.length ca).ownBlock = some k → k < w.heap.size := fun k e => (hB.evs.lt k e).2
  have hlc1 : ∀ k, (Value.slice ao cs.length cap).ownBlock = some k → k < w.heap.size := fun k e => (hB.cts.lt k e).2
  have rp0 := hp1_0 w (.cells (evr e) 57)
  have hw : Below w.heap.size w (w.alloc (.cells (evr e) 57)) := ((Below.refl _ _).alloc (Nat.le_refl _) _)
  replace hB := hB.keep hw
  go_enter Tryd.func48, Tryd.ntmps48
  go_upto_region 1 with (first | (refine wpList_box rfl 57 _ rfl _ rfl (ev_box _) ?_) | fail)
  try simp only [size_alloc1]
  generalize (w.alloc (.cells (evr e) 57)) = w0 at *
  have rB := hB.row
  have hgl := lt_of_row rB
  have hlo : ∀ k, ownB g (.slice ae es.length ca) (.slice ao cs.length cap) k → k < w.heap.size := fun k hk => by rcases hk with rfl | q | q; exact hgw; exact hle1 k q; exact hlc1 k q
  go_cut [5] from 6 to 57 (fun u_ wx => ∃ gx, u_ = .pointer (some ⟨gx, 0, none⟩) ∧ w.heap.size < gx ∧ w.heap.size ≤ gx ∧ wx.heap[w.heap.size]? = some (.cells (evr e) 57 (0, 0)) ∧ wx.heap[gx]? = some (.cells (ctr c) 45 (0, 0)) ∧ Bk wx b g (.slice ae es.length ca) (.slice ao cs.length cap) y es cs ∧ (wx).heap[g]? = some (.cells (bkr y (.slice ae es.length ca) (.slice ao cs.length cap)) 51 (0, 0)) ∧ Below w.heap.size w wx)
  case first =>
    have hb : Below w0.heap.size w0 w0.drew := below_drN (Below.refl _ _) 1
    replace rp0 := keep hb rp0
    replace hB := hB.keep hb
    replace rB := keep hb rB
    replace hw := Below.after hw hb
    clear hb
    refine wp_region_noPanic ?_
    refine wp_region_held (S := fun W_ => W_.heap[w.heap.size]? = some (.cells (evr e) 57 (0, 0)) ∧ W_.heap[g]? = some (.cells (bkr y (.slice ae es.length ca) (.slice ao cs.length cap)) 51 (0, 0))) (by kernel_rfl) ?_
    change wpAnyH _ _ _ _ _ _ _ _ (World.drew _)
    generalize w0.drew = wd2 at *
    refine wpAnyH_take (i := 0) (v := ?v3) rfl (by kernel_rfl) (by kernel_rfl) (by kernel_rfl) (fun _ _ _ h => h) (Or.inl ⟨by rfl, ?y3⟩) (⟨rp0, rB⟩) ?r3
    case y3 =>
      intro w_ hS_
      go_simp
      try with_reducible rfl
    simp only [Act.put, List.getElem_toArray, List.getElem_cons_zero, List.setIfInBounds_toArray, List.set_cons_succ, List.set_cons_zero]
    refine wpAnyH_take (i := 1) (v := ?v4) rfl (by kernel_rfl) (by kernel_rfl) (by kernel_rfl) (fun _ _ _ h => h) (Or.inl ⟨by rfl, ?y4⟩) (⟨rp0, rB⟩) ?r4
    case y4 =>
      intro w_ hS_
      go_simp
      try with_reducible rfl
    simp only [Act.put, List.getElem_toArray, List.getElem_cons_succ, List.getElem_cons_zero, List.setIfInBounds_toArray, List.set_cons_succ, List.set_cons_zero]
    refine wpAnyH_take (i := 2) (v := .slice ao cs.length cap) rfl (by kernel_rfl) (by kernel_rfl) (by kernel_rfl) (fun _ _ _ h => h) (Or.inl ⟨by rfl, ?y5⟩) (⟨rp0, rB⟩) ?r5
    case y5 =>
      intro w_ hS_
      have c_ := bkc hkey (hS_.2)
      go_simp
      try with_reducible rfl
    simp only [Act.put, List.getElem_toArray, List.getElem_cons_succ, List.getElem_cons_zero, List.setIfInBounds_toArray, List.set_cons_succ, List.set_cons_zero]
    refine wpAnyH_take (i := 3) (v := ?v6) rfl (by kernel_rfl) (by kernel_rfl) (by kernel_rfl) (fun _ _ _ h => h) (Or.inl ⟨by rfl, ?y6⟩) (⟨rp0, rB⟩) ?r6
    case y6 =>
      intro w_ hS_
      go_simp
      try with_reducible rfl
    simp only [Act.put, List.getElem_toArray, List.getElem_cons_succ, List.getElem_cons_zero, List.setIfInBounds_toArray, List.set_cons_succ, List.set_cons_zero]
    refine wpAnyH_take (i := 4) (v := .string e.n) rfl (by kernel_rfl) (by kernel_rfl) (by kernel_rfl) (fun _ _ _ h => h) (Or.inl ⟨by rfl, ?y7⟩) (⟨rp0, rB⟩) ?r7
    case y7 =>
      intro w_ hS_
      have c_ := cell_at (hS_.1) (ev_n e)
      go_simp
      try with_reducible rfl
    simp only [Act.put, List.getElem_toArray, List.getElem_cons_succ, List.getElem_cons_zero, List.setIfInBounds_toArray, List.set_cons_succ, List.set_cons_zero]
    refine eH_two (j := 5) (k := 6) (fuel := 2) (by kernel_rfl) rfl rfl (by kernel_rfl) (by kernel_rfl) (fun K_ hK_ => ?_) (fun K_ hK_ => ?_)
    · skip
      refine wp_call_ex (f := 18) (by kernel_rfl) (ex1e (cF _ hw)) (fun v_ wq8 hX_ => ?_)
      obtain ⟨rfl, hb⟩ := hX_
      replace rp0 := keep hb rp0
      replace hB := hB.keep hb
      replace rB := keep hb rB
      replace hw := Below.after hw hb
      clear hb
      refine hK_ _ _ (⟨rp0, rB⟩) ?_
      simp only [Act.put, List.getElem_toArray, List.getElem_cons_succ, List.getElem_cons_zero, List.setIfInBounds_toArray, List.set_cons_succ, List.set_cons_zero]
      clear hK_
      refine eH_one (k := 6) (fuel := 1) (by kernel_rfl) rfl (by kernel_rfl) (fun K_ hK_ => ?_)
      refine e_world_op (.pointer (some ⟨wq8.heap.size, 0, none⟩)) (wq8.alloc (.cells (ctr zct) 45)) (by kernel_rfl) ?_
      have hb : Below wq8.heap.size wq8 (wq8.alloc (.cells (ctr zct) 45)) := (Below.refl _ _).alloc (Nat.le_refl _) _
      have rg9 := hp1_0 wq8 (.cells (ctr zct) 45)
      have lt_g9_0 := lt_of_row rp0
      have sz_g9 := hw.size
      replace rp0 := keep hb rp0
      replace hB := hB.keep hb
      replace rB := keep hb rB
      replace hw := Below.after hw hb
      clear hb
      refine hK_ _ _ (⟨rp0, rB⟩) ?_
      simp only [Act.put, List.getElem_toArray, List.getElem_cons_succ, List.getElem_cons_zero, List.setIfInBounds_toArray, List.set_cons_succ, List.set_cons_zero]
      clear hK_
      generalize (wq8.alloc (.cells (ctr zct) 45)) = wq9 at *
      generalize wq8.heap.size = g9 at *
      refine eH_one (k := 7) (fuel := 0) (by kernel_rfl) rfl (by kernel_rfl) (fun K_ hK_ => ?_)
      refine wp_store_row 45 _ _ rfl (g9) (ctr c) rfl rfl 45 _ rg9 (ct_info _ hcok.1.1 hcok.2.1) ((ctr_size _ zct_ok.1.1 zct_ok.2.1).trans (ctr_size _ hcok.1.1 hcok.2.1).symm) (ctr_one _) ?_
      have hN_ := setRow_heap wq9 (g9) _ (ctr c) _ _ rg9
      replace rp0 := (setRow_other wq9 (g9) (w.heap.size) (ctr c) (by omega)).trans rp0
      replace hw := below_setRow hw (show w.heap.size ≤ g9 by omega) (ctr c)
      replace hB := hB.move (fun k_ hk_ => setRow_other wq9 (g9) k_ (ctr c) (by have := (hB.low k_ hk_).2; have := hlo k_ hk_; omega))
      replace rB := (setRow_other wq9 (g9) g (ctr c) (by omega)).trans rB
      generalize (wq9.setRow (g9) (ctr c)) = wq10 at *
      clear rg9
      have rg9 := hN_
      clear hN_
      refine hK_ _ _ (⟨rp0, rB⟩) ?_
      simp only [Act.put]
      clear hK_
      refine wpAnyH_done (by kernel_rfl) ?_ _
      refine NoPanic.normal ?_
      go_wp2_with (fail)
      go_meet
      case rel => exact ⟨g9, rfl, by omega, by omega, rp0, rg9, hB, rB, hw⟩
    · skip
      refine e_world_op (.pointer (some ⟨wd2.heap.size, 0, none⟩)) (wd2.alloc (.cells (ctr zct) 45)) (by kernel_rfl) ?_
      have hb : Below wd2.heap.size wd2 (wd2.alloc (.cells (ctr zct) 45)) := (Below.refl _ _).alloc (Nat.le_refl _) _
      have rg11 := hp1_0 wd2 (.cells (ctr zct) 45)
      have lt_g11_0 := lt_of_row rp0
      have sz_g11 := hw.size
      replace rp0 := keep hb rp0
      replace hB := hB.keep hb
      replace rB := keep hb rB
      replace hw := Below.after hw hb
      clear hb
      refine hK_ _ _ (⟨rp0, rB⟩) ?_
      simp only [Act.put, List.getElem_toArray, List.getElem_cons_succ, List.getElem_cons_zero, List.setIfInBounds_toArray, List.set_cons_succ, List.set_cons_zero]
      clear hK_
      generalize (wd2.alloc (.cells (ctr zct) 45)) = wq11 at *
      generalize wd2.heap.size = g11 at *
      refine eH_one (k := 5) (fuel := 1) (by kernel_rfl) rfl (by kernel_rfl) (fun K_ hK_ => ?_)
      refine wp_call_ex (f := 18) (by kernel_rfl) (ex1e (cF _ hw)) (fun v_ wq12 hX_ => ?_)
      obtain ⟨rfl, hb⟩ := hX_
      replace rp0 := keep hb rp0
      replace rg11 := keep hb rg11
      replace hB := hB.keep hb
      replace rB := keep hb rB
      replace hw := Below.after hw hb
      clear hb
      refine hK_ _ _ (⟨rp0, rB⟩) ?_
      simp only [Act.put, List.getElem_toArray, List.getElem_cons_succ, List.getElem_cons_zero, List.setIfInBounds_toArray, List.set_cons_succ, List.set_cons_zero]
      clear hK_
      refine eH_one (k := 7) (fuel := 0) (by kernel_rfl) rfl (by kernel_rfl) (fun K_ hK_ => ?_)
      refine wp_store_row 45 _ _ rfl (g11) (ctr c) rfl rfl 45 _ rg11 (ct_info _ hcok.1.1 hcok.2.1) ((ctr_size _ zct_ok.1.1 zct_ok.2.1).trans (ctr_size _ hcok.1.1 hcok.2.1).symm) (ctr_one _) ?_
      have hN_ := setRow_heap wq12 (g11) _ (ctr c) _ _ rg11
      replace rp0 := (setRow_other wq12 (g11) (w.heap.size) (ctr c) (by omega)).trans rp0
      replace hw := below_setRow hw (show w.heap.size ≤ g11 by omega) (ctr c)
      replace hB := hB.move (fun k_ hk_ => setRow_other wq12 (g11) k_ (ctr c) (by have := (hB.low k_ hk_).2; have := hlo k_ hk_; omega))
      replace rB := (setRow_other wq12 (g11) g (ctr c) (by omega)).trans rB
      generalize (wq12.setRow (g11) (ctr c)) = wq13 at *
      clear rg11
      have rg11 := hN_
      clear hN_
      refine hK_ _ _ (⟨rp0, rB⟩) ?_
      simp only [Act.put]
      clear hK_
      refine wpAnyH_done (by kernel_rfl) ?_ _
      refine NoPanic.normal ?_
      go_wp2_with (fail)
      go_meet
      case rel => exact ⟨g11, rfl, by omega, by omega, rp0, rg11, hB, rB, hw⟩
  case rest =>
    obtain ⟨gc1, rfl, ltc1_0, szc1, rp0, rc1, hB, rB, hw⟩ := hcut
    have hceH := hide hce
    clear hce cF
    have eQ1 := eq_k e.k c.k he.1 hcok.1.1
    have eQ2 := eq_k e.k c.x he.1 hcok.2.1
    have aCL := a_calm c hcok
    generalize dCL : clm c = xCL at *
    generalize dS3 : (c.s == 3) = xS3 at *
    generalize dQ1 : decide (e.k = c.k) = xQ1 at *
    generalize dQ2 : decide (e.k = c.x) = xQ2 at *
    cases xCL
    · skip
      cases xS3
      · skip
        have pCL : clm c = false := dCL
        have pS3 : ¬ c.s = 3 := by simpa using dS3
        have hu : Hid (up2 c e = none) := hide (by unfold up2; exact if_neg (fun h => h.elim (fun h => absurd (pCL.symm.trans h.1) (by decide)) (fun h => pS3 h.1)))
        clear pCL hst hnm
        have fc1 := cell_at rp0 (ev_d e)
        have fc2 := cell_at rp0 (ev_n e)
        have fc3 := cell_at rc1 (ct_n c)
        have fc4 := cell_at rc1 (ct_s c hcok.1.1 hcok.2.1)
        go_wp2_with (first | (refine wpList_load_part rfl 57 _ rfl (w.heap.size) 0 rfl 57 (evr e) (0, 0) (evr e) _ rp0 (all_rowe _) Tryd.underlying57 rfl (ev_info _ he.1) ?_) | (refine wpList_load_part rfl 23 _ rfl (w.heap.size) 2 rfl 57 (evr e) (0, 0) (irow .u8 e.k) _ rp0 (ev_k e he.1) Tryd.underlying23 rfl (infoKy _ he.1) ?_) | (refine wpList_load_part rfl 45 _ rfl (gc1) 0 rfl 45 (ctr c) (0, 0) (ctr c) _ rc1 (all_rowe _) Tryd.underlying45 rfl (ct_info _ hcok.1.1 hcok.2.1) ?_) | (refine wpList_load_part rfl 23 _ rfl (gc1) 1 rfl 45 (ctr c) (0, 0) (irow .u8 c.k) _ rc1 (ct_k c hcok.1.1) Tryd.underlying23 rfl (infoKy _ hcok.1.1) ?_) | (refine wpList_load_part rfl 23 _ rfl (gc1) 33 rfl 45 (ctr c) (0, 0) (irow .u8 c.x) _ rc1 (ct_x c hcok.1.1 hcok.2.1) Tryd.underlying23 rfl (infoKy _ hcok.2.1) ?_) | (refine wpList_build_want rfl 23 _ rfl [] rfl (irow .u8 (zr 32)) builtZk ?_) | fail)
        clear fc1 fc2 fc3 fc4
        refine (aCL _).mono ?_
        rintro e_ wm14 ⟨rfl, hb⟩
        replace rp0 := keep hb rp0
        replace rc1 := keep hb rc1
        replace hB := hB.keep hb
        replace rB := keep hb rB
        replace hw := Below.after hw hb
        clear hb
        have fc5 := cell_at rp0 (ev_d e)
        have fc6 := cell_at rp0 (ev_n e)
        have fc7 := cell_at rc1 (ct_n c)
        have fc8 := cell_at rc1 (ct_s c hcok.1.1 hcok.2.1)
        go_wp2_with (first | (refine wpList_load_part rfl 57 _ rfl (w.heap.size) 0 rfl 57 (evr e) (0, 0) (evr e) _ rp0 (all_rowe _) Tryd.underlying57 rfl (ev_info _ he.1) ?_) | (refine wpList_load_part rfl 23 _ rfl (w.heap.size) 2 rfl 57 (evr e) (0, 0) (irow .u8 e.k) _ rp0 (ev_k e he.1) Tryd.underlying23 rfl (infoKy _ he.1) ?_) | (refine wpList_load_part rfl 45 _ rfl (gc1) 0 rfl 45 (ctr c) (0, 0) (ctr c) _ rc1 (all_rowe _) Tryd.underlying45 rfl (ct_info _ hcok.1.1 hcok.2.1) ?_) | (refine wpList_load_part rfl 23 _ rfl (gc1) 1 rfl 45 (ctr c) (0, 0) (irow .u8 c.k) _ rc1 (ct_k c hcok.1.1) Tryd.underlying23 rfl (infoKy _ hcok.1.1) ?_) | (refine wpList_load_part rfl 23 _ rfl (gc1) 33 rfl 45 (ctr c) (0, 0) (irow .u8 c.x) _ rc1 (ct_x c hcok.1.1 hcok.2.1) Tryd.underlying23 rfl (infoKy _ hcok.2.1) ?_) | (refine wpList_build_want rfl 23 _ rfl [] rfl (irow .u8 (zr 32)) builtZk ?_) | fail)
        clear fc5 fc6 fc7 fc8
        go_ret
        exact ⟨by rw [hu.out]; rfl, by rw [hu.out]; exact hB, Fr.of hw⟩
      · skip
        cases xQ1
        · skip
          cases xQ2
          · skip
            have pCL : clm c = false := dCL
            have pS3 : c.s = 3 := by simpa using dS3
            have pQ1 : ¬ e.k = c.k := by simpa using dQ1
            have pQ2 : ¬ e.k = c.x := by simpa using dQ2
            have hu : Hid (up2 c e = some ⟨c.n, c.k, e.k, 3⟩) := hide (by unfold up2; exact if_pos (.inr ⟨pS3, pQ1, pQ2⟩))
            have hs0 : c.s ≠ 0 := by first | omega | (unfold clm at pCL; simp only [Bool.or_eq_true, beq_iff_eq] at pCL; omega)
            have hth : th cs c.n = true := by rw [(hnm hs0).2]; exact (hnm hs0).1
            clear pCL pQ1 pQ2 hst hnm hs0
            have fc9 := cell_at rp0 (ev_d e)
            have fc10 := cell_at rp0 (ev_n e)
            have fc11 := cell_at rc1 (ct_n c)
            have fc12 := cell_at rc1 (ct_s c hcok.1.1 hcok.2.1)
            go_wp2_with (first | (refine wpList_load_part rfl 57 _ rfl (w.heap.size) 0 rfl 57 (evr e) (0, 0) (evr e) _ rp0 (all_rowe _) Tryd.underlying57 rfl (ev_info _ he.1) ?_) | (refine wpList_load_part rfl 23 _ rfl (w.heap.size) 2 rfl 57 (evr e) (0, 0) (irow .u8 e.k) _ rp0 (ev_k e he.1) Tryd.underlying23 rfl (infoKy _ he.1) ?_) | (refine wpList_load_part rfl 45 _ rfl (gc1) 0 rfl 45 (ctr c) (0, 0) (ctr c) _ rc1 (all_rowe _) Tryd.underlying45 rfl (ct_info _ hcok.1.1 hcok.2.1) ?_) | (refine wpList_load_part rfl 23 _ rfl (gc1) 1 rfl 45 (ctr c) (0, 0) (irow .u8 c.k) _ rc1 (ct_k c hcok.1.1) Tryd.underlying23 rfl (infoKy _ hcok.1.1) ?_) | (refine wpList_load_part rfl 23 _ rfl (gc1) 33 rfl 45 (ctr c) (0, 0) (irow .u8 c.x) _ rc1 (ct_x c hcok.1.1 hcok.2.1) Tryd.underlying23 rfl (infoKy _ hcok.2.1) ?_) | (refine wpList_build_want rfl 23 _ rfl [] rfl (irow .u8 (zr 32)) builtZk ?_) | fail)
            clear fc9 fc10 fc11 fc12
            refine (aCL _).mono ?_
            rintro e_ wm15 ⟨rfl, hb⟩
            replace rp0 := keep hb rp0
            replace rc1 := keep hb rc1
            replace hB := hB.keep hb
            replace rB := keep hb rB
            replace hw := Below.after hw hb
            clear hb
            have fc13 := cell_at rp0 (ev_d e)
            have fc14 := cell_at rp0 (ev_n e)
            have fc15 := cell_at rc1 (ct_n c)
            have fc16 := cell_at rc1 (ct_s c hcok.1.1 hcok.2.1)
            go_wp2_with (first | (refine wpList_load_part rfl 57 _ rfl (w.heap.size) 0 rfl 57 (evr e) (0, 0) (evr e) _ rp0 (all_rowe _) Tryd.underlying57 rfl (ev_info _ he.1) ?_) | (refine wpList_load_part rfl 23 _ rfl (w.heap.size) 2 rfl 57 (evr e) (0, 0) (irow .u8 e.k) _ rp0 (ev_k e he.1) Tryd.underlying23 rfl (infoKy _ he.1) ?_) | (refine wpList_load_part rfl 45 _ rfl (gc1) 0 rfl 45 (ctr c) (0, 0) (ctr c) _ rc1 (all_rowe _) Tryd.underlying45 rfl (ct_info _ hcok.1.1 hcok.2.1) ?_) | (refine wpList_load_part rfl 23 _ rfl (gc1) 1 rfl 45 (ctr c) (0, 0) (irow .u8 c.k) _ rc1 (ct_k c hcok.1.1) Tryd.underlying23 rfl (infoKy _ hcok.1.1) ?_) | (refine wpList_load_part rfl 23 _ rfl (gc1) 33 rfl 45 (ctr c) (0, 0) (irow .u8 c.x) _ rc1 (ct_x c hcok.1.1 hcok.2.1) Tryd.underlying23 rfl (infoKy _ hcok.2.1) ?_) | (refine wpList_build_want rfl 23 _ rfl [] rfl (irow .u8 (zr 32)) builtZk ?_) | fail)
            clear fc13 fc14 fc15 fc16
            have hb : Below wm15.heap.size wm15 wm15.drew := below_drN (Below.refl _ _) 1
            replace rp0 := keep hb rp0
            replace rc1 := keep hb rc1
            replace hB := hB.keep hb
            replace rB := keep hb rB
            replace hw := Below.after hw hb
            clear hb
            refine wp_region_noPanic ?_
            refine wp_region_held (S := fun W_ => W_.heap[w.heap.size]? = some (.cells (evr e) 57 (0, 0)) ∧ W_.heap[gc1]? = some (.cells (ctr c) 45 (0, 0)) ∧ W_.heap[g]? = some (.cells (bkr y (.slice ae es.length ca) (.slice ao cs.length cap)) 51 (0, 0))) (by kernel_rfl) ?_
            change wpAnyH _ _ _ _ _ _ _ _ (World.drew _)
            generalize wm15.drew = wd16 at *
            refine wpAnyH_take (i := 0) (v := ?v17) rfl (by kernel_rfl) (by kernel_rfl) (by kernel_rfl) (fun _ _ _ h => h) (Or.inl ⟨by rfl, ?y17⟩) (⟨rp0, rc1, rB⟩) ?r17
            case y17 =>
              intro w_ hS_
              go_simp
              try with_reducible rfl
            simp only [Act.put, List.getElem_toArray, List.getElem_cons_zero, List.setIfInBounds_toArray, List.set_cons_succ, List.set_cons_zero]
            refine wpAnyH_take (i := 1) (v := ?v18) rfl (by kernel_rfl) (by kernel_rfl) (by kernel_rfl) (fun _ _ _ h => h) (Or.inl ⟨by rfl, ?y18⟩) (⟨rp0, rc1, rB⟩) ?r18
            case y18 =>
              intro w_ hS_
              go_simp
              try with_reducible rfl
            simp only [Act.put, List.getElem_toArray, List.getElem_cons_succ, List.getElem_cons_zero, List.setIfInBounds_toArray, List.set_cons_succ, List.set_cons_zero]
            refine wpAnyH_take (i := 2) (v := .slice ao cs.length cap) rfl (by kernel_rfl) (by kernel_rfl) (by kernel_rfl) (fun _ _ _ h => h) (Or.inl ⟨by rfl, ?y19⟩) (⟨rp0, rc1, rB⟩) ?r19
            case y19 =>
              intro w_ hS_
              have c_ := bkc hkey (hS_.2.2)
              go_simp
              try with_reducible rfl
            simp only [Act.put, List.getElem_toArray, List.getElem_cons_succ, List.getElem_cons_zero, List.setIfInBounds_toArray, List.set_cons_succ, List.set_cons_zero]
            refine wpAnyH_take (i := 3) (v := ?v20) rfl (by kernel_rfl) (by kernel_rfl) (by kernel_rfl) (fun _ _ _ h => h) (Or.inl ⟨by rfl, ?y20⟩) (⟨rp0, rc1, rB⟩) ?r20
            case y20 =>
              intro w_ hS_
              go_simp
              try with_reducible rfl
            simp only [Act.put, List.getElem_toArray, List.getElem_cons_succ, List.getElem_cons_zero, List.setIfInBounds_toArray, List.set_cons_succ, List.set_cons_zero]
            refine wpAnyH_take (i := 4) (v := .string c.n) rfl (by kernel_rfl) (by kernel_rfl) (by kernel_rfl) (fun _ _ _ h => h) (Or.inl ⟨by rfl, ?y21⟩) (⟨rp0, rc1, rB⟩) ?r21
            case y21 =>
              intro w_ hS_
              have c_ := cell_at (hS_.2.1) (ct_n c)
              go_simp
              try with_reducible rfl
            simp only [Act.put, List.getElem_toArray, List.getElem_cons_succ, List.getElem_cons_zero, List.setIfInBounds_toArray, List.set_cons_succ, List.set_cons_zero]
            refine wpAnyH_take (i := 5) (v := ?v22) rfl (by kernel_rfl) (by kernel_rfl) (by kernel_rfl) (fun _ _ _ h => h) (Or.inl ⟨by rfl, ?y22⟩) (⟨rp0, rc1, rB⟩) ?r22
            case y22 =>
              intro w_ hS_
              go_simp
              try with_reducible rfl
            simp only [Act.put, List.getElem_toArray, List.getElem_cons_succ, List.getElem_cons_zero, List.setIfInBounds_toArray, List.set_cons_succ, List.set_cons_zero]
            refine wpAnyH_take (i := 6) (v := .agg (irow .u8 c.k)) rfl (by kernel_rfl) (by kernel_rfl) (by kernel_rfl) (fun _ _ _ h => h) (Or.inl ⟨by rfl, ?y23⟩) (⟨rp0, rc1, rB⟩) ?r23
            case y23 =>
              intro w_ hS_
              simp only [List.getElem_toArray, List.getElem_cons_succ, List.getElem_cons_zero]
              exact e_load_part 23 _ (by rfl) (gc1) 1 (by rfl) 45 (ctr c) (0, 0) (irow .u8 c.k) _ (hS_.2.1) (ct_k c hcok.1.1) Tryd.underlying23 rfl (infoKy _ hcok.1.1)
            simp only [Act.put, List.getElem_toArray, List.getElem_cons_succ, List.getElem_cons_zero, List.setIfInBounds_toArray, List.set_cons_succ, List.set_cons_zero]
            refine wpAnyH_take (i := 7) (v := ?v24) rfl (by kernel_rfl) (by kernel_rfl) (by kernel_rfl) (fun _ _ _ h => h) (Or.inl ⟨by rfl, ?y24⟩) (⟨rp0, rc1, rB⟩) ?r24
            case y24 =>
              intro w_ hS_
              go_simp
              try with_reducible rfl
            simp only [Act.put, List.getElem_toArray, List.getElem_cons_succ, List.getElem_cons_zero, List.setIfInBounds_toArray, List.set_cons_succ, List.set_cons_zero]
            refine wpAnyH_take (i := 8) (v := .agg (irow .u8 e.k)) rfl (by kernel_rfl) (by kernel_rfl) (by kernel_rfl) (fun _ _ _ h => h) (Or.inl ⟨by rfl, ?y25⟩) (⟨rp0, rc1, rB⟩) ?r25
            case y25 =>
              intro w_ hS_
              simp only [List.getElem_toArray, List.getElem_cons_succ, List.getElem_cons_zero]
              exact e_load_part 23 _ (by rfl) (w.heap.size) 2 (by rfl) 57 (evr e) (0, 0) (irow .u8 e.k) _ (hS_.1) (ev_k e he.1) Tryd.underlying23 rfl (infoKy _ he.1)
            simp only [Act.put, List.getElem_toArray, List.getElem_cons_succ, List.getElem_cons_zero, List.setIfInBounds_toArray, List.set_cons_succ, List.set_cons_zero]
            refine wpAnyH_take (i := 9) (v := .agg (ctr ⟨c.n, c.k, e.k, 3⟩)) rfl (by kernel_rfl) (by kernel_rfl) (by kernel_rfl) (fun _ _ _ h => h) (Or.inl ⟨by rfl, ?y26⟩) (⟨rp0, rc1, rB⟩) ?r26
            case y26 =>
              intro w_ hS_
              simp only [List.getElem_toArray, List.getElem_cons_succ, List.getElem_cons_zero]
              exact run_build_op 45 _ (by rfl) [(0, .string c.n), (1, .agg (irow .u8 c.k)), (2, .agg (irow .u8 e.k)), (3, .int .i64 3)] (by rfl) _ (bt_4 c.n c.k e.k 3 hcok.1.1 he.1)
            simp only [Act.put, List.getElem_toArray, List.getElem_cons_succ, List.getElem_cons_zero, List.setIfInBounds_toArray, List.set_cons_succ, List.set_cons_zero]
            refine eH_one (k := 10) (fuel := 0) (by kernel_rfl) rfl (by kernel_rfl) (fun K_ hK_ => ?_)
            refine wp_call_ex (f := 64) (R := fun v_ w_ => v_ = .tuple #[] ∧ OwnC w_ b (Value.slice ao cs.length cap) (putC cs ⟨c.n, c.k, e.k, 3⟩) ∧ Fr (fun k => (Value.slice ao cs.length cap).ownBlock = some k) wd16 w_) (by kernel_rfl) ((a_put cs ⟨c.n, c.k, e.k, 3⟩ ⟨hcok.1, he⟩ b _ _ hB.cts hB.srt (by omega) hth).mono (fun e_ w_ h_ => ⟨_, h_.1, rfl, h_.2⟩)) (fun v_ wq27 hX_ => ?_)
            obtain ⟨rfl, hO2, hF2⟩ := hX_
            have hB2 := hB.put (c := ⟨c.n, c.k, e.k, 3⟩) hth (by simp) hO2 hF2
            have hT : Fr (ownB g (Value.slice ae es.length ca) (Value.slice ao cs.length cap)) w wq27 := (Fr.of hw).step (hF2.book (ve := (Value.slice ae es.length ca)) (g := g)) (fun _ _ q => q)
            have hS2 : wq27.heap[w.heap.size]? = some (.cells (evr e) 57 (0, 0)) ∧ wq27.heap[gc1]? = some (.cells (ctr c) 45 (0, 0)) ∧ wq27.heap[g]? = some (.cells (bkr y (.slice ae es.length ca) (.slice ao cs.length cap)) 51 (0, 0)) := ⟨hF2.row rp0 (own_type hB.cts.1 rp0 (by decide)), (hF2.row rc1 (fun q => by have := hlc1 _ q; omega)), hB2.row⟩
            refine hK_ _ _ hS2 ?_
            simp only [Act.put, List.getElem_toArray, List.getElem_cons_succ, List.getElem_cons_zero, List.setIfInBounds_toArray, List.set_cons_succ, List.set_cons_zero]
            clear hK_
            refine wpAnyH_done (by kernel_rfl) ?_ _
            refine NoPanic.normal ?_
            go_wp2_with (fail)
            go_ret
            exact ⟨by rw [hu.out]; rfl, by rw [hu.out]; exact hB2, hT⟩
          · skip
            have pCL : clm c = false := dCL
            have pS3 : c.s = 3 := by simpa using dS3
            have pQ1 : ¬ e.k = c.k := by simpa using dQ1
            have pQ2 : e.k = c.x := by simpa using dQ2
            have hu : Hid (up2 c e = none) := hide (by unfold up2; exact if_neg (fun h => h.elim (fun h => absurd (pCL.symm.trans h.1) (by decide)) (fun h => h.2.2 pQ2)))
            clear pCL pQ1 pQ2 hst hnm
            have fc17 := cell_at rp0 (ev_d e)
            have fc18 := cell_at rp0 (ev_n e)
            have fc19 := cell_at rc1 (ct_n c)
            have fc20 := cell_at rc1 (ct_s c hcok.1.1 hcok.2.1)
            go_wp2_with (first | (refine wpList_load_part rfl 57 _ rfl (w.heap.size) 0 rfl 57 (evr e) (0, 0) (evr e) _ rp0 (all_rowe _) Tryd.underlying57 rfl (ev_info _ he.1) ?_) | (refine wpList_load_part rfl 23 _ rfl (w.heap.size) 2 rfl 57 (evr e) (0, 0) (irow .u8 e.k) _ rp0 (ev_k e he.1) Tryd.underlying23 rfl (infoKy _ he.1) ?_) | (refine wpList_load_part rfl 45 _ rfl (gc1) 0 rfl 45 (ctr c) (0, 0) (ctr c) _ rc1 (all_rowe _) Tryd.underlying45 rfl (ct_info _ hcok.1.1 hcok.2.1) ?_) | (refine wpList_load_part rfl 23 _ rfl (gc1) 1 rfl 45 (ctr c) (0, 0) (irow .u8 c.k) _ rc1 (ct_k c hcok.1.1) Tryd.underlying23 rfl (infoKy _ hcok.1.1) ?_) | (refine wpList_load_part rfl 23 _ rfl (gc1) 33 rfl 45 (ctr c) (0, 0) (irow .u8 c.x) _ rc1 (ct_x c hcok.1.1 hcok.2.1) Tryd.underlying23 rfl (infoKy _ hcok.2.1) ?_) | (refine wpList_build_want rfl 23 _ rfl [] rfl (irow .u8 (zr 32)) builtZk ?_) | fail)
            clear fc17 fc18 fc19 fc20
            refine (aCL _).mono ?_
            rintro e_ wm28 ⟨rfl, hb⟩
            replace rp0 := keep hb rp0
            replace rc1 := keep hb rc1
            replace hB := hB.keep hb
            replace rB := keep hb rB
            replace hw := Below.after hw hb
            clear hb
            have fc21 := cell_at rp0 (ev_d e)
            have fc22 := cell_at rp0 (ev_n e)
            have fc23 := cell_at rc1 (ct_n c)
            have fc24 := cell_at rc1 (ct_s c hcok.1.1 hcok.2.1)
            go_wp2_with (first | (refine wpList_load_part rfl 57 _ rfl (w.heap.size) 0 rfl 57 (evr e) (0, 0) (evr e) _ rp0 (all_rowe _) Tryd.underlying57 rfl (ev_info _ he.1) ?_) | (refine wpList_load_part rfl 23 _ rfl (w.heap.size) 2 rfl 57 (evr e) (0, 0) (irow .u8 e.k) _ rp0 (ev_k e he.1) Tryd.underlying23 rfl (infoKy _ he.1) ?_) | (refine wpList_load_part rfl 45 _ rfl (gc1) 0 rfl 45 (ctr c) (0, 0) (ctr c) _ rc1 (all_rowe _) Tryd.underlying45 rfl (ct_info _ hcok.1.1 hcok.2.1) ?_) | (refine wpList_load_part rfl 23 _ rfl (gc1) 1 rfl 45 (ctr c) (0, 0) (irow .u8 c.k) _ rc1 (ct_k c hcok.1.1) Tryd.underlying23 rfl (infoKy _ hcok.1.1) ?_) | (refine wpList_load_part rfl 23 _ rfl (gc1) 33 rfl 45 (ctr c) (0, 0) (irow .u8 c.x) _ rc1 (ct_x c hcok.1.1 hcok.2.1) Tryd.underlying23 rfl (infoKy _ hcok.2.1) ?_) | (refine wpList_build_want rfl 23 _ rfl [] rfl (irow .u8 (zr 32)) builtZk ?_) | fail)
            clear fc21 fc22 fc23 fc24
            go_ret
            exact ⟨by rw [hu.out]; rfl, by rw [hu.out]; exact hB, Fr.of hw⟩
        · skip
          have pCL : clm c = false := dCL
          have pS3 : c.s = 3 := by simpa using dS3
          have pQ1 : e.k = c.k := by simpa using dQ1
          have hu : Hid (up2 c e = none) := hide (by unfold up2; exact if_neg (fun h => h.elim (fun h => absurd (pCL.symm.trans h.1) (by decide)) (fun h => h.2.1 pQ1)))
          clear pCL pQ1 hst hnm
          have fc25 := cell_at rp0 (ev_d e)
          have fc26 := cell_at rp0 (ev_n e)
          have fc27 := cell_at rc1 (ct_n c)
          have fc28 := cell_at rc1 (ct_s c hcok.1.1 hcok.2.1)
          go_wp2_with (first | (refine wpList_load_part rfl 57 _ rfl (w.heap.size) 0 rfl 57 (evr e) (0, 0) (evr e) _ rp0 (all_rowe _) Tryd.underlying57 rfl (ev_info _ he.1) ?_) | (refine wpList_load_part rfl 23 _ rfl (w.heap.size) 2 rfl 57 (evr e) (0, 0) (irow .u8 e.k) _ rp0 (ev_k e he.1) Tryd.underlying23 rfl (infoKy _ he.1) ?_) | (refine wpList_load_part rfl 45 _ rfl (gc1) 0 rfl 45 (ctr c) (0, 0) (ctr c) _ rc1 (all_rowe _) Tryd.underlying45 rfl (ct_info _ hcok.1.1 hcok.2.1) ?_) | (refine wpList_load_part rfl 23 _ rfl (gc1) 1 rfl 45 (ctr c) (0, 0) (irow .u8 c.k) _ rc1 (ct_k c hcok.1.1) Tryd.underlying23 rfl (infoKy _ hcok.1.1) ?_) | (refine wpList_load_part rfl 23 _ rfl (gc1) 33 rfl 45 (ctr c) (0, 0) (irow .u8 c.x) _ rc1 (ct_x c hcok.1.1 hcok.2.1) Tryd.underlying23 rfl (infoKy _ hcok.2.1) ?_) | (refine wpList_build_want rfl 23 _ rfl [] rfl (irow .u8 (zr 32)) builtZk ?_) | fail)
          clear fc25 fc26 fc27 fc28
          refine (aCL _).mono ?_
          rintro e_ wm29 ⟨rfl, hb⟩
          replace rp0 := keep hb rp0
          replace rc1 := keep hb rc1
          replace hB := hB.keep hb
          replace rB := keep hb rB
          replace hw := Below.after hw hb
          clear hb
          have fc29 := cell_at rp0 (ev_d e)
          have fc30 := cell_at rp0 (ev_n e)
          have fc31 := cell_at rc1 (ct_n c)
          have fc32 := cell_at rc1 (ct_s c hcok.1.1 hcok.2.1)
          go_wp2_with (first | (refine wpList_load_part rfl 57 _ rfl (w.heap.size) 0 rfl 57 (evr e) (0, 0) (evr e) _ rp0 (all_rowe _) Tryd.underlying57 rfl (ev_info _ he.1) ?_) | (refine wpList_load_part rfl 23 _ rfl (w.heap.size) 2 rfl 57 (evr e) (0, 0) (irow .u8 e.k) _ rp0 (ev_k e he.1) Tryd.underlying23 rfl (infoKy _ he.1) ?_) | (refine wpList_load_part rfl 45 _ rfl (gc1) 0 rfl 45 (ctr c) (0, 0) (ctr c) _ rc1 (all_rowe _) Tryd.underlying45 rfl (ct_info _ hcok.1.1 hcok.2.1) ?_) | (refine wpList_load_part rfl 23 _ rfl (gc1) 1 rfl 45 (ctr c) (0, 0) (irow .u8 c.k) _ rc1 (ct_k c hcok.1.1) Tryd.underlying23 rfl (infoKy _ hcok.1.1) ?_) | (refine wpList_load_part rfl 23 _ rfl (gc1) 33 rfl 45 (ctr c) (0, 0) (irow .u8 c.x) _ rc1 (ct_x c hcok.1.1 hcok.2.1) Tryd.underlying23 rfl (infoKy _ hcok.2.1) ?_) | (refine wpList_build_want rfl 23 _ rfl [] rfl (irow .u8 (zr 32)) builtZk ?_) | fail)
          clear fc29 fc30 fc31 fc32
          go_ret
          exact ⟨by rw [hu.out]; rfl, by rw [hu.out]; exact hB, Fr.of hw⟩
    · skip
      cases xS3
      · skip
        cases xQ1
        · skip
          have pCL : clm c = true := dCL
          have pS3 : ¬ c.s = 3 := by simpa using dS3
          have pQ1 : ¬ e.k = c.k := by simpa using dQ1
          have hu : Hid (up2 c e = some ⟨c.n, c.k, e.k, 3⟩) := hide (by unfold up2; exact if_pos (.inl ⟨pCL, pQ1⟩))
          have hs0 : c.s ≠ 0 := by first | omega | (unfold clm at pCL; simp only [Bool.or_eq_true, beq_iff_eq] at pCL; omega)
          have hth : th cs c.n = true := by rw [(hnm hs0).2]; exact (hnm hs0).1
          clear pCL pQ1 hst hnm hs0
          have fc33 := cell_at rp0 (ev_d e)
          have fc34 := cell_at rp0 (ev_n e)
          have fc35 := cell_at rc1 (ct_n c)
          have fc36 := cell_at rc1 (ct_s c hcok.1.1 hcok.2.1)
          go_wp2_with (first | (refine wpList_load_part rfl 57 _ rfl (w.heap.size) 0 rfl 57 (evr e) (0, 0) (evr e) _ rp0 (all_rowe _) Tryd.underlying57 rfl (ev_info _ he.1) ?_) | (refine wpList_load_part rfl 23 _ rfl (w.heap.size) 2 rfl 57 (evr e) (0, 0) (irow .u8 e.k) _ rp0 (ev_k e he.1) Tryd.underlying23 rfl (infoKy _ he.1) ?_) | (refine wpList_load_part rfl 45 _ rfl (gc1) 0 rfl 45 (ctr c) (0, 0) (ctr c) _ rc1 (all_rowe _) Tryd.underlying45 rfl (ct_info _ hcok.1.1 hcok.2.1) ?_) | (refine wpList_load_part rfl 23 _ rfl (gc1) 1 rfl 45 (ctr c) (0, 0) (irow .u8 c.k) _ rc1 (ct_k c hcok.1.1) Tryd.underlying23 rfl (infoKy _ hcok.1.1) ?_) | (refine wpList_load_part rfl 23 _ rfl (gc1) 33 rfl 45 (ctr c) (0, 0) (irow .u8 c.x) _ rc1 (ct_x c hcok.1.1 hcok.2.1) Tryd.underlying23 rfl (infoKy _ hcok.2.1) ?_) | (refine wpList_build_want rfl 23 _ rfl [] rfl (irow .u8 (zr 32)) builtZk ?_) | fail)
          clear fc33 fc34 fc35 fc36
          refine (aCL _).mono ?_
          rintro e_ wm30 ⟨rfl, hb⟩
          replace rp0 := keep hb rp0
          replace rc1 := keep hb rc1
          replace hB := hB.keep hb
          replace rB := keep hb rB
          replace hw := Below.after hw hb
          clear hb
          have fc37 := cell_at rp0 (ev_d e)
          have fc38 := cell_at rp0 (ev_n e)
          have fc39 := cell_at rc1 (ct_n c)
          have fc40 := cell_at rc1 (ct_s c hcok.1.1 hcok.2.1)
          go_wp2_with (first | (refine wpList_load_part rfl 57 _ rfl (w.heap.size) 0 rfl 57 (evr e) (0, 0) (evr e) _ rp0 (all_rowe _) Tryd.underlying57 rfl (ev_info _ he.1) ?_) | (refine wpList_load_part rfl 23 _ rfl (w.heap.size) 2 rfl 57 (evr e) (0, 0) (irow .u8 e.k) _ rp0 (ev_k e he.1) Tryd.underlying23 rfl (infoKy _ he.1) ?_) | (refine wpList_load_part rfl 45 _ rfl (gc1) 0 rfl 45 (ctr c) (0, 0) (ctr c) _ rc1 (all_rowe _) Tryd.underlying45 rfl (ct_info _ hcok.1.1 hcok.2.1) ?_) | (refine wpList_load_part rfl 23 _ rfl (gc1) 1 rfl 45 (ctr c) (0, 0) (irow .u8 c.k) _ rc1 (ct_k c hcok.1.1) Tryd.underlying23 rfl (infoKy _ hcok.1.1) ?_) | (refine wpList_load_part rfl 23 _ rfl (gc1) 33 rfl 45 (ctr c) (0, 0) (irow .u8 c.x) _ rc1 (ct_x c hcok.1.1 hcok.2.1) Tryd.underlying23 rfl (infoKy _ hcok.2.1) ?_) | (refine wpList_build_want rfl 23 _ rfl [] rfl (irow .u8 (zr 32)) builtZk ?_) | fail)
          clear fc37 fc38 fc39 fc40
          have hb : Below wm30.heap.size wm30 wm30.drew := below_drN (Below.refl _ _) 1
          replace rp0 := keep hb rp0
          replace rc1 := keep hb rc1
          replace hB := hB.keep hb
          replace rB := keep hb rB
          replace hw := Below.after hw hb
          clear hb
          refine wp_region_noPanic ?_
          refine wp_region_held (S := fun W_ => W_.heap[w.heap.size]? = some (.cells (evr e) 57 (0, 0)) ∧ W_.heap[gc1]? = some (.cells (ctr c) 45 (0, 0)) ∧ W_.heap[g]? = some (.cells (bkr y (.slice ae es.length ca) (.slice ao cs.length cap)) 51 (0, 0))) (by kernel_rfl) ?_
          change wpAnyH _ _ _ _ _ _ _ _ (World.drew _)
          generalize wm30.drew = wd31 at *
          refine wpAnyH_take (i := 0) (v := ?v32) rfl (by kernel_rfl) (by kernel_rfl) (by kernel_rfl) (fun _ _ _ h => h) (Or.inl ⟨by rfl, ?y32⟩) (⟨rp0, rc1, rB⟩) ?r32
          case y32 =>
            intro w_ hS_
            go_simp
            try with_reducible rfl
          simp only [Act.put, List.getElem_toArray, List.getElem_cons_zero, List.setIfInBounds_toArray, List.set_cons_succ, List.set_cons_zero]
          refine wpAnyH_take (i := 1) (v := ?v33) rfl (by kernel_rfl) (by kernel_rfl) (by kernel_rfl) (fun _ _ _ h => h) (Or.inl ⟨by rfl, ?y33⟩) (⟨rp0, rc1, rB⟩) ?r33
          case y33 =>
            intro w_ hS_
            go_simp
            try with_reducible rfl
          simp only [Act.put, List.getElem_toArray, List.getElem_cons_succ, List.getElem_cons_zero, List.setIfInBounds_toArray, List.set_cons_succ, List.set_cons_zero]
          refine wpAnyH_take (i := 2) (v := .slice ao cs.length cap) rfl (by kernel_rfl) (by kernel_rfl) (by kernel_rfl) (fun _ _ _ h => h) (Or.inl ⟨by rfl, ?y34⟩) (⟨rp0, rc1, rB⟩) ?r34
          case y34 =>
            intro w_ hS_
            have c_ := bkc hkey (hS_.2.2)
            go_simp
            try with_reducible rfl
          simp only [Act.put, List.getElem_toArray, List.getElem_cons_succ, List.getElem_cons_zero, List.setIfInBounds_toArray, List.set_cons_succ, List.set_cons_zero]
          refine wpAnyH_take (i := 3) (v := ?v35) rfl (by kernel_rfl) (by kernel_rfl) (by kernel_rfl) (fun _ _ _ h => h) (Or.inl ⟨by rfl, ?y35⟩) (⟨rp0, rc1, rB⟩) ?r35
          case y35 =>
            intro w_ hS_
            go_simp
            try with_reducible rfl
          simp only [Act.put, List.getElem_toArray, List.getElem_cons_succ, List.getElem_cons_zero, List.setIfInBounds_toArray, List.set_cons_succ, List.set_cons_zero]
          refine wpAnyH_take (i := 4) (v := .string c.n) rfl (by kernel_rfl) (by kernel_rfl) (by kernel_rfl) (fun _ _ _ h => h) (Or.inl ⟨by rfl, ?y36⟩) (⟨rp0, rc1, rB⟩) ?r36
          case y36 =>
            intro w_ hS_
            have c_ := cell_at (hS_.2.1) (ct_n c)
            go_simp
            try with_reducible rfl
          simp only [Act.put, List.getElem_toArray, List.getElem_cons_succ, List.getElem_cons_zero, List.setIfInBounds_toArray, List.set_cons_succ, List.set_cons_zero]
          refine wpAnyH_take (i := 5) (v := ?v37) rfl (by kernel_rfl) (by kernel_rfl) (by kernel_rfl) (fun _ _ _ h => h) (Or.inl ⟨by rfl, ?y37⟩) (⟨rp0, rc1, rB⟩) ?r37
          case y37 =>
            intro w_ hS_
            go_simp
            try with_reducible rfl
          simp only [Act.put, List.getElem_toArray, List.getElem_cons_succ, List.getElem_cons_zero, List.setIfInBounds_toArray, List.set_cons_succ, List.set_cons_zero]
          refine wpAnyH_take (i := 6) (v := .agg (irow .u8 c.k)) rfl (by kernel_rfl) (by kernel_rfl) (by kernel_rfl) (fun _ _ _ h => h) (Or.inl ⟨by rfl, ?y38⟩) (⟨rp0, rc1, rB⟩) ?r38
          case y38 =>
            intro w_ hS_
            simp only [List.getElem_toArray, List.getElem_cons_succ, List.getElem_cons_zero]
            exact e_load_part 23 _ (by rfl) (gc1) 1 (by rfl) 45 (ctr c) (0, 0) (irow .u8 c.k) _ (hS_.2.1) (ct_k c hcok.1.1) Tryd.underlying23 rfl (infoKy _ hcok.1.1)
          simp only [Act.put, List.getElem_toArray, List.getElem_cons_succ, List.getElem_cons_zero, List.setIfInBounds_toArray, List.set_cons_succ, List.set_cons_zero]
          refine wpAnyH_take (i := 7) (v := ?v39) rfl (by kernel_rfl) (by kernel_rfl) (by kernel_rfl) (fun _ _ _ h => h) (Or.inl ⟨by rfl, ?y39⟩) (⟨rp0, rc1, rB⟩) ?r39
          case y39 =>
            intro w_ hS_
            go_simp
            try with_reducible rfl
          simp only [Act.put, List.getElem_toArray, List.getElem_cons_succ, List.getElem_cons_zero, List.setIfInBounds_toArray, List.set_cons_succ, List.set_cons_zero]
          refine wpAnyH_take (i := 8) (v := .agg (irow .u8 e.k)) rfl (by kernel_rfl) (by kernel_rfl) (by kernel_rfl) (fun _ _ _ h => h) (Or.inl ⟨by rfl, ?y40⟩) (⟨rp0, rc1, rB⟩) ?r40
          case y40 =>
            intro w_ hS_
            simp only [List.getElem_toArray, List.getElem_cons_succ, List.getElem_cons_zero]
            exact e_load_part 23 _ (by rfl) (w.heap.size) 2 (by rfl) 57 (evr e) (0, 0) (irow .u8 e.k) _ (hS_.1) (ev_k e he.1) Tryd.underlying23 rfl (infoKy _ he.1)
          simp only [Act.put, List.getElem_toArray, List.getElem_cons_succ, List.getElem_cons_zero, List.setIfInBounds_toArray, List.set_cons_succ, List.set_cons_zero]
          refine wpAnyH_take (i := 9) (v := .agg (ctr ⟨c.n, c.k, e.k, 3⟩)) rfl (by kernel_rfl) (by kernel_rfl) (by kernel_rfl) (fun _ _ _ h => h) (Or.inl ⟨by rfl, ?y41⟩) (⟨rp0, rc1, rB⟩) ?r41
          case y41 =>
            intro w_ hS_
            simp only [List.getElem_toArray, List.getElem_cons_succ, List.getElem_cons_zero]
            exact run_build_op 45 _ (by rfl) [(0, .string c.n), (1, .agg (irow .u8 c.k)), (2, .agg (irow .u8 e.k)), (3, .int .i64 3)] (by rfl) _ (bt_4 c.n c.k e.k 3 hcok.1.1 he.1)
          simp only [Act.put, List.getElem_toArray, List.getElem_cons_succ, List.getElem_cons_zero, List.setIfInBounds_toArray, List.set_cons_succ, List.set_cons_zero]
          refine eH_one (k := 10) (fuel := 0) (by kernel_rfl) rfl (by kernel_rfl) (fun K_ hK_ => ?_)
          refine wp_call_ex (f := 64) (R := fun v_ w_ => v_ = .tuple #[] ∧ OwnC w_ b (Value.slice ao cs.length cap) (putC cs ⟨c.n, c.k, e.k, 3⟩) ∧ Fr (fun k => (Value.slice ao cs.length cap).ownBlock = some k) wd31 w_) (by kernel_rfl) ((a_put cs ⟨c.n, c.k, e.k, 3⟩ ⟨hcok.1, he⟩ b _ _ hB.cts hB.srt (by omega) hth).mono (fun e_ w_ h_ => ⟨_, h_.1, rfl, h_.2⟩)) (fun v_ wq42 hX_ => ?_)
          obtain ⟨rfl, hO2, hF2⟩ := hX_
          have hB2 := hB.put (c := ⟨c.n, c.k, e.k, 3⟩) hth (by simp) hO2 hF2
          have hT : Fr (ownB g (Value.slice ae es.length ca) (Value.slice ao cs.length cap)) w wq42 := (Fr.of hw).step (hF2.book (ve := (Value.slice ae es.length ca)) (g := g)) (fun _ _ q => q)
          have hS2 : wq42.heap[w.heap.size]? = some (.cells (evr e) 57 (0, 0)) ∧ wq42.heap[gc1]? = some (.cells (ctr c) 45 (0, 0)) ∧ wq42.heap[g]? = some (.cells (bkr y (.slice ae es.length ca) (.slice ao cs.length cap)) 51 (0, 0)) := ⟨hF2.row rp0 (own_type hB.cts.1 rp0 (by decide)), (hF2.row rc1 (fun q => by have := hlc1 _ q; omega)), hB2.row⟩
          refine hK_ _ _ hS2 ?_
          simp only [Act.put, List.getElem_toArray, List.getElem_cons_succ, List.getElem_cons_zero, List.setIfInBounds_toArray, List.set_cons_succ, List.set_cons_zero]
          clear hK_
          refine wpAnyH_done (by kernel_rfl) ?_ _
          refine NoPanic.normal ?_
          go_wp2_with (fail)
          go_ret
          exact ⟨by rw [hu.out]; rfl, by rw [hu.out]; exact hB2, hT⟩
        · skip
          have pCL : clm c = true := dCL
          have pS3 : ¬ c.s = 3 := by simpa using dS3
          have pQ1 : e.k = c.k := by simpa using dQ1
          have hu : Hid (up2 c e = none) := hide (by unfold up2; exact if_neg (fun h => h.elim (fun h => h.2 pQ1) (fun h => pS3 h.1)))
          clear pCL pQ1 hst hnm
          have fc41 := cell_at rp0 (ev_d e)
          have fc42 := cell_at rp0 (ev_n e)
          have fc43 := cell_at rc1 (ct_n c)
          have fc44 := cell_at rc1 (ct_s c hcok.1.1 hcok.2.1)
          go_wp2_with (first | (refine wpList_load_part rfl 57 _ rfl (w.heap.size) 0 rfl 57 (evr e) (0, 0) (evr e) _ rp0 (all_rowe _) Tryd.underlying57 rfl (ev_info _ he.1) ?_) | (refine wpList_load_part rfl 23 _ rfl (w.heap.size) 2 rfl 57 (evr e) (0, 0) (irow .u8 e.k) _ rp0 (ev_k e he.1) Tryd.underlying23 rfl (infoKy _ he.1) ?_) | (refine wpList_load_part rfl 45 _ rfl (gc1) 0 rfl 45 (ctr c) (0, 0) (ctr c) _ rc1 (all_rowe _) Tryd.underlying45 rfl (ct_info _ hcok.1.1 hcok.2.1) ?_) | (refine wpList_load_part rfl 23 _ rfl (gc1) 1 rfl 45 (ctr c) (0, 0) (irow .u8 c.k) _ rc1 (ct_k c hcok.1.1) Tryd.underlying23 rfl (infoKy _ hcok.1.1) ?_) | (refine wpList_load_part rfl 23 _ rfl (gc1) 33 rfl 45 (ctr c) (0, 0) (irow .u8 c.x) _ rc1 (ct_x c hcok.1.1 hcok.2.1) Tryd.underlying23 rfl (infoKy _ hcok.2.1) ?_) | (refine wpList_build_want rfl 23 _ rfl [] rfl (irow .u8 (zr 32)) builtZk ?_) | fail)
          clear fc41 fc42 fc43 fc44
          refine (aCL _).mono ?_
          rintro e_ wm43 ⟨rfl, hb⟩
          replace rp0 := keep hb rp0
          replace rc1 := keep hb rc1
          replace hB := hB.keep hb
          replace rB := keep hb rB
          replace hw := Below.after hw hb
          clear hb
          have fc45 := cell_at rp0 (ev_d e)
          have fc46 := cell_at rp0 (ev_n e)
          have fc47 := cell_at rc1 (ct_n c)
          have fc48 := cell_at rc1 (ct_s c hcok.1.1 hcok.2.1)
          go_wp2_with (first | (refine wpList_load_part rfl 57 _ rfl (w.heap.size) 0 rfl 57 (evr e) (0, 0) (evr e) _ rp0 (all_rowe _) Tryd.underlying57 rfl (ev_info _ he.1) ?_) | (refine wpList_load_part rfl 23 _ rfl (w.heap.size) 2 rfl 57 (evr e) (0, 0) (irow .u8 e.k) _ rp0 (ev_k e he.1) Tryd.underlying23 rfl (infoKy _ he.1) ?_) | (refine wpList_load_part rfl 45 _ rfl (gc1) 0 rfl 45 (ctr c) (0, 0) (ctr c) _ rc1 (all_rowe _) Tryd.underlying45 rfl (ct_info _ hcok.1.1 hcok.2.1) ?_) | (refine wpList_load_part rfl 23 _ rfl (gc1) 1 rfl 45 (ctr c) (0, 0) (irow .u8 c.k) _ rc1 (ct_k c hcok.1.1) Tryd.underlying23 rfl (infoKy _ hcok.1.1) ?_) | (refine wpList_load_part rfl 23 _ rfl (gc1) 33 rfl 45 (ctr c) (0, 0) (irow .u8 c.x) _ rc1 (ct_x c hcok.1.1 hcok.2.1) Tryd.underlying23 rfl (infoKy _ hcok.2.1) ?_) | (refine wpList_build_want rfl 23 _ rfl [] rfl (irow .u8 (zr 32)) builtZk ?_) | fail)
          clear fc45 fc46 fc47 fc48
          go_ret
          exact ⟨by rw [hu.out]; rfl, by rw [hu.out]; exact hB, Fr.of hw⟩
      · skip
        exfalso
        have pCL : clm c = true := dCL
        have pS3 : c.s = 3 := by simpa using dS3
        first | omega | (unfold clm at pCL; simp only [Bool.or_eq_true, beq_iff_eq] at pCL; omega)
end Go.Proofs.YtlbcdjflcghkeaaDoor
