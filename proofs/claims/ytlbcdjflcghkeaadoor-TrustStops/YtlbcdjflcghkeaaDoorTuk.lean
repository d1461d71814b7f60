import Derived.Test.YtlbcdjflcghkeaaDoorProg
import Derived.WalkKit
import Derived.WalkSpells
import Derived.WalkLawsBesides
import Derived.Lib.QuietBelow
import Derived.BigQuiet
import Derived.OrdersHeld
import Derived.OwnWalk
import Derived.Deep.RegionHeld3
import Derived.Deep.Cut
import Derived.Deep.CutRange
import Derived.Deep.CutBlock
import Derived.Test.YtlbcdjflcghkeaaDoorTui
namespace Go.Proofs.YtlbcdjflcghkeaaDoor
set_option maxRecDepth 100000
open Go Go.RowKit Go.Sort
attribute [local go_sem] setCell_drewN alloc_drewN
set_option maxRecDepth 100000 in
set_option maxHeartbeats 8000000 in
theorem a_up4 (e : Ev) (he : e.ok) (b g : Nat) (ve vc : Value) (y : List Int) (es : List Ev) (cs : List Ct) (w : World) (hB : Bk w b g ve vc y es cs) : Calls Tryd.prog 50 #[.pointer (some ⟨g, 33, none⟩), .agg (evr e)] w fun en w' => en = .returned (.bool (up4 (fnC cs e.n) e).isSome) ∧ Bk w' b g ve vc y es ((puO cs (up4 (fnC cs e.n) e)).getD cs) ∧ Fr (ownB g ve vc) w w' := by
  have hkey := hB.key.1
  have hcl := hB.len
  have hcok := fnC_ok hB.cts.2 e.n
  have hst : (fnC cs e.n).s ≠ 0 → 1 ≤ (fnC cs e.n).s ∧ (fnC cs e.n).s ≤ 4 := fun q => by
    unfold fnC at q ⊢
    cases qq : fd cs e.n with
    | none => rw [qq] at q; exact absurd rfl q
    | some d => exact hB.sta d (fd_some qq).1
  obtain ⟨ao, cap, rfl, hc1, hc2, hz1, hz2⟩ := hB.cts.sl
  obtain ⟨ae, ca, rfl, hc3, hc4, hz3, hz4⟩ := hB.evs.sl
  have cF : ∀ W, Below w.heap.size w W → Calls Tryd.prog 18 #[.slice ao cs.length cap, .string e.n] W fun e_ w' => e_ = .returned (.agg (ctr (fnC cs e.n))) ∧ Below W.heap.size W w' := fun W hW => a_find cs e.n b _ W (hB.keep hW).cts hB.srt (by omega)
  have hnm : (fnC cs e.n).s ≠ 0 → th cs e.n = true ∧ (fnC cs e.n).n = e.n := fnC_name
  generalize hce : fnC cs e.n = c at *
  have hgw := lt_of_row hB.row
  have hle1 : ∀ k, (Value.slice ae es.length ca).ownBlock = some k → k < w.heap.size := fun k e => (hB.evs.lt k e).2
  have hlc1 : ∀ k, (Value.slice ao cs.length cap).ownBlock = some k → k < w.heap.size := fun k e => (hB.cts.lt k e).2
  have rp0 := hp1_0 w (.cells (evr e) 57)
  have hw : Below w.heap.size w (w.alloc (.cells (evr e) 57)) := ((Below.refl _ _).alloc (Nat.le_refl _) _)
  replace hB := hB.keep hw
  go_enter Tryd.func50, Tryd.ntmps50
  go_upto_region 1 with (first | (refine wpList_box rfl 57 _ rfl _ rfl (ev_box _) ?_) | fail)
  try simp only [size_alloc1]
  generalize (w.alloc (.cells (evr e) 57)) = w0 at *
  have rB := hB.row
  have hgl := lt_of_row rB
  have hlo : ∀ k, ownB g (.slice ae es.length ca) (.slice ao cs.length cap) k → k < w.heap.size := fun k hk => by rcases hk with rfl | q | q; exact hgw; exact hle1 k q; exact hlc1 k q
  go_cut [5] from 6 to 36 (fun u_ wx => ∃ gx, u_ = .pointer (some ⟨gx, 0, none⟩) ∧ w.heap.size < gx ∧ w.heap.size ≤ gx ∧ wx.heap[w.heap.size]? = some (.cells (evr e) 57 (0, 0)) ∧ wx.heap[gx]? = some (.cells (ctr c) 45 (0, 0)) ∧ Bk wx b g (.slice ae es.length ca) (.slice ao cs.length cap) y es cs ∧ (wx).heap[g]? = some (.cells (bkr y (.slice ae es.length ca) (.slice ao cs.length cap)) 51 (0, 0)) ∧ Below w.heap.size w wx)
  case first =>
    have hb : Below w0.heap.size w0 w0.drew := below_drN (Below.refl _ _) 1
    replace rp0 := keep hb rp0
    replace hB := hB.keep hb
    replace rB := keep hb rB
    replace hw := Below.after hw hb
    clear hb
    refine wp_region_noPanic ?_
    refine wp_region_held (S := fun W_ => W_.heap[w.heap.size]? = some (.cells (evr e) 57 (0, 0)) ∧ W_.heap[g]? = some (.cells (bkr y (.slice ae es.length ca) (.slice ao cs.length cap)) 51 (0, 0))) (by kernel_rfl) ?_
    change wpAnyH _ _ _ _ _ _ _ _ (World.drew _)
    generalize w0.drew = wd2 at *
    refine wpAnyH_take (i := 0) (v := ?v3) rfl (by kernel_rfl) (by kernel_rfl) (by kernel_rfl) (fun _ _ _ h => h) (Or.inl ⟨by rfl, ?y3⟩) (⟨rp0, rB⟩) ?r3
    case y3 =>
      intro w_ hS_
      go_simp
      try with_reducible rfl
    simp only [Act.put, List.getElem_toArray, List.getElem_cons_zero, List.setIfInBounds_toArray, List.set_cons_succ, List.set_cons_zero]
    refine wpAnyH_take (i := 1) (v := ?v4) rfl (by kernel_rfl) (by kernel_rfl) (by kernel_rfl) (fun _ _ _ h => h) (Or.inl ⟨by rfl, ?y4⟩) (⟨rp0, rB⟩) ?r4
    case y4 =>
      intro w_ hS_
      go_simp
      try with_reducible rfl
    simp only [Act.put, List.getElem_toArray, List.getElem_cons_succ, List.getElem_cons_zero, List.setIfInBounds_toArray, List.set_cons_succ, List.set_cons_zero]
    refine wpAnyH_take (i := 2) (v := .slice ao cs.length cap) rfl (by kernel_rfl) (by kernel_rfl) (by kernel_rfl) (fun _ _ _ h => h) (Or.inl ⟨by rfl, ?y5⟩) (⟨rp0, rB⟩) ?r5
    case y5 =>
      intro w_ hS_
      have c_ := bkc hkey (hS_.2)
      go_simp
      try with_reducible rfl
    simp only [Act.put, List.getElem_toArray, List.getElem_cons_succ, List.getElem_cons_zero, List.setIfInBounds_toArray, List.set_cons_succ, List.set_cons_zero]
    refine wpAnyH_take (i := 3) (v := ?v6) rfl (by kernel_rfl) (by kernel_rfl) (by kernel_rfl) (fun _ _ _ h => h) (Or.inl ⟨by rfl, ?y6⟩) (⟨rp0, rB⟩) ?r6
    case y6 =>
      intro w_ hS_
      go_simp
      try with_reducible rfl
    simp only [Act.put, List.getElem_toArray, List.getElem_cons_succ, List.getElem_cons_zero, List.setIfInBounds_toArray, List.set_cons_succ, List.set_cons_zero]
    refine wpAnyH_take (i := 4) (v := .string e.n) rfl (by kernel_rfl) (by kernel_rfl) (by kernel_rfl) (fun _ _ _ h => h) (Or.inl ⟨by rfl, ?y7⟩) (⟨rp0, rB⟩) ?r7
    case y7 =>
      intro w_ hS_
      have c_ := cell_at (hS_.1) (ev_n e)
      go_simp
      try with_reducible rfl
    simp only [Act.put, List.getElem_toArray, List.getElem_cons_succ, List.getElem_cons_zero, List.setIfInBounds_toArray, List.set_cons_succ, List.set_cons_zero]
    refine eH_two (j := 5) (k := 6) (fuel := 2) (by kernel_rfl) rfl rfl (by kernel_rfl) (by kernel_rfl) (fun K_ hK_ => ?_) (fun K_ hK_ => ?_)
    · skip
      refine wp_call_ex (f := 18) (by kernel_rfl) (ex1e (cF _ hw)) (fun v_ wq8 hX_ => ?_)
      obtain ⟨rfl, hb⟩ := hX_
      replace rp0 := keep hb rp0
      replace hB := hB.keep hb
      replace rB := keep hb rB
      replace hw := Below.after hw hb
      clear hb
      refine hK_ _ _ (⟨rp0, rB⟩) ?_
      simp only [Act.put, List.getElem_toArray, List.getElem_cons_succ, List.getElem_cons_zero, List.setIfInBounds_toArray, List.set_cons_succ, List.set_cons_zero]
      clear hK_
      refine eH_one (k := 6) (fuel := 1) (by kernel_rfl) rfl (by kernel_rfl) (fun K_ hK_ => ?_)
      refine e_world_op (.pointer (some ⟨wq8.heap.size, 0, none⟩)) (wq8.alloc (.cells (ctr zct) 45)) (by kernel_rfl) ?_
      have hb : Below wq8.heap.size wq8 (wq8.alloc (.cells (ctr zct) 45)) := (Below.refl _ _).alloc (Nat.le_refl _) _
      have rg9 := hp1_0 wq8 (.cells (ctr zct) 45)
      have lt_g9_0 := lt_of_row rp0
      have sz_g9 := hw.size
      replace rp0 := keep hb rp0
      replace hB := hB.keep hb
      replace rB := keep hb rB
      replace hw := Below.after hw hb
      clear hb
      refine hK_ _ _ (⟨rp0, rB⟩) ?_
      simp only [Act.put, List.getElem_toArray, List.getElem_cons_succ, List.getElem_cons_zero, List.setIfInBounds_toArray, List.set_cons_succ, List.set_cons_zero]
      clear hK_
      generalize (wq8.alloc (.cells (ctr zct) 45)) = wq9 at *
      generalize wq8.heap.size = g9 at *
      refine eH_one (k := 7) (fuel := 0) (by kernel_rfl) rfl (by kernel_rfl) (fun K_ hK_ => ?_)
      refine wp_store_row 45 _ _ rfl (g9) (ctr c) rfl rfl 45 _ rg9 (ct_info _ hcok.1.1 hcok.2.1) ((ctr_size _ zct_ok.1.1 zct_ok.2.1).trans (ctr_size _ hcok.1.1 hcok.2.1).symm) (ctr_one _) ?_
      have hN_ := setRow_heap wq9 (g9) _ (ctr c) _ _ rg9
      replace rp0 := (setRow_other wq9 (g9) (w.heap.size) (ctr c) (by omega)).trans rp0
      replace hw := below_setRow hw (show w.heap.size ≤ g9 by omega) (ctr c)
      replace hB := hB.move (fun k_ hk_ => setRow_other wq9 (g9) k_ (ctr c) (by have := (hB.low k_ hk_).2; have := hlo k_ hk_; omega))
      replace rB := (setRow_other wq9 (g9) g (ctr c) (by omega)).trans rB
      generalize (wq9.setRow (g9) (ctr c)) = wq10 at *
      clear rg9
      have rg9 := hN_
      clear hN_
      refine hK_ _ _ (⟨rp0, rB⟩) ?_
      simp only [Act.put]
      clear hK_
      refine wpAnyH_done (by kernel_rfl) ?_ _
      refine NoPanic.normal ?_
      go_wp2_with (fail)
      go_meet
      case rel => exact ⟨g9, rfl, by omega, by omega, rp0, rg9, hB, rB, hw⟩
    · skip
      refine e_world_op (.pointer (some ⟨wd2.heap.size, 0, none⟩)) (wd2.alloc (.cells (ctr zct) 45)) (by kernel_rfl) ?_
      have hb : Below wd2.heap.size wd2 (wd2.alloc (.cells (ctr zct) 45)) := (Below.refl _ _).alloc (Nat.le_refl _) _
      have rg11 := hp1_0 wd2 (.cells (ctr zct) 45)
      have lt_g11_0 := lt_of_row rp0
      have sz_g11 := hw.size
      replace rp0 := keep hb rp0
      replace hB := hB.keep hb
      replace rB := keep hb rB
      replace hw := Below.after hw hb
      clear hb
      refine hK_ _ _ (⟨rp0, rB⟩) ?_
      simp only [Act.put, List.getElem_toArray, List.getElem_cons_succ, List.getElem_cons_zero, List.setIfInBounds_toArray, List.set_cons_succ, List.set_cons_zero]
      clear hK_
      generalize (wd2.alloc (.cells (ctr zct) 45)) = wq11 at *
      generalize wd2.heap.size = g11 at *
      refine eH_one (k := 5) (fuel := 1) (by kernel_rfl) rfl (by kernel_rfl) (fun K_ hK_ => ?_)
      refine wp_call_ex (f := 18) (by kernel_rfl) (ex1e (cF _ hw)) (fun v_ wq12 hX_ => ?_)
      obtain ⟨rfl, hb⟩ := hX_
      replace rp0 := keep hb rp0
      replace rg11 := keep hb rg11
      replace hB := hB.keep hb
      replace rB := keep hb rB
      replace hw := Below.after hw hb
      clear hb
      refine hK_ _ _ (⟨rp0, rB⟩) ?_
      simp only [Act.put, List.getElem_toArray, List.getElem_cons_succ, List.getElem_cons_zero, List.setIfInBounds_toArray, List.set_cons_succ, List.set_cons_zero]
      clear hK_
      refine eH_one (k := 7) (fuel := 0) (by kernel_rfl) rfl (by kernel_rfl) (fun K_ hK_ => ?_)
      refine wp_store_row 45 _ _ rfl (g11) (ctr c) rfl rfl 45 _ rg11 (ct_info _ hcok.1.1 hcok.2.1) ((ctr_size _ zct_ok.1.1 zct_ok.2.1).trans (ctr_size _ hcok.1.1 hcok.2.1).symm) (ctr_one _) ?_
      have hN_ := setRow_heap wq12 (g11) _ (ctr c) _ _ rg11
      replace rp0 := (setRow_other wq12 (g11) (w.heap.size) (ctr c) (by omega)).trans rp0
      replace hw := below_setRow hw (show w.heap.size ≤ g11 by omega) (ctr c)
      replace hB := hB.move (fun k_ hk_ => setRow_other wq12 (g11) k_ (ctr c) (by have := (hB.low k_ hk_).2; have := hlo k_ hk_; omega))
      replace rB := (setRow_other wq12 (g11) g (ctr c) (by omega)).trans rB
      generalize (wq12.setRow (g11) (ctr c)) = wq13 at *
      clear rg11
      have rg11 := hN_
      clear hN_
      refine hK_ _ _ (⟨rp0, rB⟩) ?_
      simp only [Act.put]
      clear hK_
      refine wpAnyH_done (by kernel_rfl) ?_ _
      refine NoPanic.normal ?_
      go_wp2_with (fail)
      go_meet
      case rel => exact ⟨g11, rfl, by omega, by omega, rp0, rg11, hB, rB, hw⟩
  case rest =>
    obtain ⟨gc1, rfl, ltc1_0, szc1, rp0, rc1, hB, rB, hw⟩ := hcut
    have hceH := hide hce
    clear hce cF
    have eQL := eq_k e.k (lat c) he.1 (lat_ok hcok).1
    generalize dS0 : (c.s == 0) = xS0 at *
    generalize dS4 : (c.s == 4) = xS4 at *
    generalize dQL : decide (e.k = lat c) = xQL at *
    cases xS0
    · skip
      cases xS4
      · skip
        cases xQL
        · skip
          have pS0 : ¬ c.s = 0 := by simpa using dS0
          have pS4 : ¬ c.s = 4 := by simpa using dS4
          have pQL : ¬ e.k = lat c := by simpa using dQL
          have hu : Hid (up4 c e = none) := hide (by unfold up4; exact if_neg (fun h => pQL h.2.2))
          clear pQL hst hnm
          go_wp2_with (fail)
          have hb : Below wc.heap.size wc wc.drew := below_drN (Below.refl _ _) 1
          replace rp0 := keep hb rp0
          replace rc1 := keep hb rc1
          replace hB := hB.keep hb
          replace rB := keep hb rB
          replace hw := Below.after hw hb
          clear hb
          refine wp_region_noPanic ?_
          refine wp_region_held (S := fun W_ => W_.heap[w.heap.size]? = some (.cells (evr e) 57 (0, 0)) ∧ W_.heap[gc1]? = some (.cells (ctr c) 45 (0, 0)) ∧ W_.heap[g]? = some (.cells (bkr y (.slice ae es.length ca) (.slice ao cs.length cap)) 51 (0, 0))) (by kernel_rfl) ?_
          change wpAnyH _ _ _ _ _ _ _ _ (World.drew _)
          generalize wc.drew = wd14 at *
          refine wpAnyH_take (i := 0) (v := ?v15) rfl (by kernel_rfl) (by kernel_rfl) (by kernel_rfl) (fun _ _ _ h => h) (Or.inl ⟨by rfl, ?y15⟩) (⟨rp0, rc1, rB⟩) ?r15
          case y15 =>
            intro w_ hS_
            go_simp
            try with_reducible rfl
          simp only [Act.put, List.getElem_toArray, List.getElem_cons_zero, List.setIfInBounds_toArray, List.set_cons_succ, List.set_cons_zero]
          refine wpAnyH_take (i := 1) (v := .int .i64 c.s) rfl (by kernel_rfl) (by kernel_rfl) (by kernel_rfl) (fun _ _ _ h => h) (Or.inl ⟨by rfl, ?y16⟩) (⟨rp0, rc1, rB⟩) ?r16
          case y16 =>
            intro w_ hS_
            have c_ := cell_at (hS_.2.1) (ct_s c hcok.1.1 hcok.2.1)
            go_simp
            try with_reducible rfl
          simp only [Act.put, List.getElem_toArray, List.getElem_cons_succ, List.getElem_cons_zero, List.setIfInBounds_toArray, List.set_cons_succ, List.set_cons_zero]
          refine wpAnyH_take (i := 2) (v := ?v17) rfl (by kernel_rfl) (by kernel_rfl) (by kernel_rfl) (fun _ _ _ h => h) (Or.inl ⟨by rfl, ?y17⟩) (⟨rp0, rc1, rB⟩) ?r17
          case y17 =>
            intro w_ hS_
            go_simp
            try with_reducible rfl
          simp only [Act.put, List.getElem_toArray, List.getElem_cons_succ, List.getElem_cons_zero, List.setIfInBounds_toArray, List.set_cons_succ, List.set_cons_zero]
          refine wpAnyH_take (i := 3) (v := ?v18) rfl (by kernel_rfl) (by kernel_rfl) (by kernel_rfl) (fun _ _ _ h => h) (Or.inl ⟨by rfl, ?y18⟩) (⟨rp0, rc1, rB⟩) ?r18
          case y18 =>
            intro w_ hS_
            go_simp
            try with_reducible rfl
          simp only [Act.put, List.getElem_toArray, List.getElem_cons_succ, List.getElem_cons_zero, List.setIfInBounds_toArray, List.set_cons_succ, List.set_cons_zero]
          refine wpAnyH_take (i := 4) (v := ?v19) rfl (by kernel_rfl) (by kernel_rfl) (by kernel_rfl) (fun _ _ _ h => h) (Or.inl ⟨by rfl, ?y19⟩) (⟨rp0, rc1, rB⟩) ?r19
          case y19 =>
            intro w_ hS_
            go_simp
            try with_reducible rfl
          simp only [Act.put, List.getElem_toArray, List.getElem_cons_succ, List.getElem_cons_zero, List.setIfInBounds_toArray, List.set_cons_succ, List.set_cons_zero]
          refine wpAnyH_take (i := 5) (v := .int .i64 c.s) rfl (by kernel_rfl) (by kernel_rfl) (by kernel_rfl) (fun _ _ _ h => h) (Or.inl ⟨by rfl, ?y20⟩) (⟨rp0, rc1, rB⟩) ?r20
          case y20 =>
            intro w_ hS_
            have c_ := cell_at (hS_.2.1) (ct_s c hcok.1.1 hcok.2.1)
            go_simp
            try with_reducible rfl
          simp only [Act.put, List.getElem_toArray, List.getElem_cons_succ, List.getElem_cons_zero, List.setIfInBounds_toArray, List.set_cons_succ, List.set_cons_zero]
          refine wpAnyH_take (i := 6) (v := ?v21) rfl (by kernel_rfl) (by kernel_rfl) (by kernel_rfl) (fun _ _ _ h => h) (Or.inl ⟨by rfl, ?y21⟩) (⟨rp0, rc1, rB⟩) ?r21
          case y21 =>
            intro w_ hS_
            go_simp
            try with_reducible rfl
          simp only [Act.put, List.getElem_toArray, List.getElem_cons_succ, List.getElem_cons_zero, List.setIfInBounds_toArray, List.set_cons_succ, List.set_cons_zero]
          refine wpAnyH_take (i := 7) (v := ?v22) rfl (by kernel_rfl) (by kernel_rfl) (by kernel_rfl) (fun _ _ _ h => h) (Or.inl ⟨by rfl, ?y22⟩) (⟨rp0, rc1, rB⟩) ?r22
          case y22 =>
            intro w_ hS_
            go_simp
            try with_reducible rfl
          simp only [Act.put, List.getElem_toArray, List.getElem_cons_succ, List.getElem_cons_zero, List.setIfInBounds_toArray, List.set_cons_succ, List.set_cons_zero]
          refine wpAnyH_take (i := 8) (v := ?v23) rfl (by kernel_rfl) (by kernel_rfl) (by kernel_rfl) (fun _ _ _ h => h) (Or.inl ⟨by rfl, ?y23⟩) (⟨rp0, rc1, rB⟩) ?r23
          case y23 =>
            intro w_ hS_
            go_simp
            try with_reducible rfl
          simp only [Act.put, List.getElem_toArray, List.getElem_cons_succ, List.getElem_cons_zero, List.setIfInBounds_toArray, List.set_cons_succ, List.set_cons_zero]
          refine wpAnyH_take (i := 9) (v := ?v24) rfl (by kernel_rfl) (by kernel_rfl) (by kernel_rfl) (fun _ _ _ h => h) (Or.inl ⟨by rfl, ?y24⟩) (⟨rp0, rc1, rB⟩) ?r24
          case y24 =>
            intro w_ hS_
            go_simp
            try with_reducible rfl
          simp only [Act.put, List.getElem_toArray, List.getElem_cons_succ, List.getElem_cons_zero, List.setIfInBounds_toArray, List.set_cons_succ, List.set_cons_zero]
          refine wpAnyH_take (i := 10) (v := .agg (irow .u8 e.k)) rfl (by kernel_rfl) (by kernel_rfl) (by kernel_rfl) (fun _ _ _ h => h) (Or.inl ⟨by rfl, ?y25⟩) (⟨rp0, rc1, rB⟩) ?r25
          case y25 =>
            intro w_ hS_
            simp only [List.getElem_toArray, List.getElem_cons_succ, List.getElem_cons_zero]
            exact e_load_part 23 _ (by rfl) (w.heap.size) 2 (by rfl) 57 (evr e) (0, 0) (irow .u8 e.k) _ (hS_.1) (ev_k e he.1) Tryd.underlying23 rfl (infoKy _ he.1)
          simp only [Act.put, List.getElem_toArray, List.getElem_cons_succ, List.getElem_cons_zero, List.setIfInBounds_toArray, List.set_cons_succ, List.set_cons_zero]
          refine wpAnyH_take (i := 11) (v := .agg (ctr c)) rfl (by kernel_rfl) (by kernel_rfl) (by kernel_rfl) (fun _ _ _ h => h) (Or.inl ⟨by rfl, ?y26⟩) (⟨rp0, rc1, rB⟩) ?r26
          case y26 =>
            intro w_ hS_
            simp only [List.getElem_toArray, List.getElem_cons_succ, List.getElem_cons_zero]
            exact e_load_part 45 _ (by rfl) (gc1) 0 (by rfl) 45 (ctr c) (0, 0) (ctr c) _ (hS_.2.1) (all_rowe _) Tryd.underlying45 rfl (ct_info _ hcok.1.1 hcok.2.1)
          simp only [Act.put, List.getElem_toArray, List.getElem_cons_succ, List.getElem_cons_zero, List.setIfInBounds_toArray, List.set_cons_succ, List.set_cons_zero]
          refine eH_one (k := 12) (fuel := 2) (by kernel_rfl) rfl (by kernel_rfl) (fun K_ hK_ => ?_)
          refine wp_call_ex (f := 25) (by kernel_rfl) (ex1e (a_latest c hcok _)) (fun v_ wq27 hX_ => ?_)
          obtain ⟨rfl, hb⟩ := hX_
          replace rp0 := keep hb rp0
          replace rc1 := keep hb rc1
          replace hB := hB.keep hb
          replace rB := keep hb rB
          replace hw := Below.after hw hb
          clear hb
          refine hK_ _ _ (⟨rp0, rc1, rB⟩) ?_
          simp only [Act.put, List.getElem_toArray, List.getElem_cons_succ, List.getElem_cons_zero, List.setIfInBounds_toArray, List.set_cons_succ, List.set_cons_zero]
          clear hK_
          refine wpAnyH_take (i := 13) (v := ?v28) rfl (by kernel_rfl) (by kernel_rfl) (by kernel_rfl) (fun _ _ _ h => h) (Or.inl ⟨by rfl, ?y28⟩) (⟨rp0, rc1, rB⟩) ?r28
          case y28 =>
            intro w_ hS_
            go_simp
            try with_reducible rfl
          simp only [Act.put, List.getElem_toArray, List.getElem_cons_succ, List.getElem_cons_zero, List.setIfInBounds_toArray, List.set_cons_succ, List.set_cons_zero]
          refine wpAnyH_take (i := 14) (v := ?v29) rfl (by kernel_rfl) (by kernel_rfl) (by kernel_rfl) (fun _ _ _ h => h) (Or.inl ⟨by rfl, ?y29⟩) (⟨rp0, rc1, rB⟩) ?r29
          case y29 =>
            intro w_ hS_
            go_simp
            try with_reducible rfl
          simp only [Act.put, List.getElem_toArray, List.getElem_cons_succ, List.getElem_cons_zero, List.setIfInBounds_toArray, List.set_cons_succ, List.set_cons_zero]
          refine wpAnyH_done (by kernel_rfl) ?_ _
          refine NoPanic.normal ?_
          have fc1 := cell_at rp0 (ev_d e)
          have fc2 := cell_at rp0 (ev_n e)
          have fc3 := cell_at rc1 (ct_n c)
          have fc4 := cell_at rc1 (ct_s c hcok.1.1 hcok.2.1)
          go_wp2_with (first | (refine wpList_load_part rfl 57 _ rfl (w.heap.size) 0 rfl 57 (evr e) (0, 0) (evr e) _ rp0 (all_rowe _) Tryd.underlying57 rfl (ev_info _ he.1) ?_) | (refine wpList_load_part rfl 23 _ rfl (w.heap.size) 2 rfl 57 (evr e) (0, 0) (irow .u8 e.k) _ rp0 (ev_k e he.1) Tryd.underlying23 rfl (infoKy _ he.1) ?_) | (refine wpList_load_part rfl 45 _ rfl (gc1) 0 rfl 45 (ctr c) (0, 0) (ctr c) _ rc1 (all_rowe _) Tryd.underlying45 rfl (ct_info _ hcok.1.1 hcok.2.1) ?_) | (refine wpList_load_part rfl 23 _ rfl (gc1) 1 rfl 45 (ctr c) (0, 0) (irow .u8 c.k) _ rc1 (ct_k c hcok.1.1) Tryd.underlying23 rfl (infoKy _ hcok.1.1) ?_) | (refine wpList_load_part rfl 23 _ rfl (gc1) 33 rfl 45 (ctr c) (0, 0) (irow .u8 c.x) _ rc1 (ct_x c hcok.1.1 hcok.2.1) Tryd.underlying23 rfl (infoKy _ hcok.2.1) ?_) | (refine wpList_build_want rfl 23 _ rfl [] rfl (irow .u8 (zr 32)) builtZk ?_) | fail)
          clear fc1 fc2 fc3 fc4
          go_ret
          exact ⟨by rw [hu.out]; rfl, by rw [hu.out]; exact hB, Fr.of hw⟩
        · skip
          have pS0 : ¬ c.s = 0 := by simpa using dS0
          have pS4 : ¬ c.s = 4 := by simpa using dS4
          have pQL : e.k = lat c := by simpa using dQL
          have hu : Hid (up4 c e = some ⟨c.n, e.k, zr 32, 2⟩) := hide (by unfold up4; exact if_pos ⟨pS0, pS4, pQL⟩)
          have hs0 : c.s ≠ 0 := by first | omega | (unfold clm at pCL; simp only [Bool.or_eq_true, beq_iff_eq] at pCL; omega)
          have hth : th cs c.n = true := by rw [(hnm hs0).2]; exact (hnm hs0).1
          clear pQL hst hnm hs0
          go_wp2_with (fail)
          have hb : Below wc.heap.size wc wc.drew := below_drN (Below.refl _ _) 1
          replace rp0 := keep hb rp0
          replace rc1 := keep hb rc1
          replace hB := hB.keep hb
          replace rB := keep hb rB
          replace hw := Below.after hw hb
          clear hb
          refine wp_region_noPanic ?_
          refine wp_region_held (S := fun W_ => W_.heap[w.heap.size]? = some (.cells (evr e) 57 (0, 0)) ∧ W_.heap[gc1]? = some (.cells (ctr c) 45 (0, 0)) ∧ W_.heap[g]? = some (.cells (bkr y (.slice ae es.length ca) (.slice ao cs.length cap)) 51 (0, 0))) (by kernel_rfl) ?_
          change wpAnyH _ _ _ _ _ _ _ _ (World.drew _)
          generalize wc.drew = wd30 at *
          refine wpAnyH_take (i := 0) (v := ?v31) rfl (by kernel_rfl) (by kernel_rfl) (by kernel_rfl) (fun _ _ _ h => h) (Or.inl ⟨by rfl, ?y31⟩) (⟨rp0, rc1, rB⟩) ?r31
          case y31 =>
            intro w_ hS_
            go_simp
            try with_reducible rfl
          simp only [Act.put, List.getElem_toArray, List.getElem_cons_zero, List.setIfInBounds_toArray, List.set_cons_succ, List.set_cons_zero]
          refine wpAnyH_take (i := 1) (v := .int .i64 c.s) rfl (by kernel_rfl) (by kernel_rfl) (by kernel_rfl) (fun _ _ _ h => h) (Or.inl ⟨by rfl, ?y32⟩) (⟨rp0, rc1, rB⟩) ?r32
          case y32 =>
            intro w_ hS_
            have c_ := cell_at (hS_.2.1) (ct_s c hcok.1.1 hcok.2.1)
            go_simp
            try with_reducible rfl
          simp only [Act.put, List.getElem_toArray, List.getElem_cons_succ, List.getElem_cons_zero, List.setIfInBounds_toArray, List.set_cons_succ, List.set_cons_zero]
          refine wpAnyH_take (i := 2) (v := ?v33) rfl (by kernel_rfl) (by kernel_rfl) (by kernel_rfl) (fun _ _ _ h => h) (Or.inl ⟨by rfl, ?y33⟩) (⟨rp0, rc1, rB⟩) ?r33
          case y33 =>
            intro w_ hS_
            go_simp
            try with_reducible rfl
          simp only [Act.put, List.getElem_toArray, List.getElem_cons_succ, List.getElem_cons_zero, List.setIfInBounds_toArray, List.set_cons_succ, List.set_cons_zero]
          refine wpAnyH_take (i := 3) (v := ?v34) rfl (by kernel_rfl) (by kernel_rfl) (by kernel_rfl) (fun _ _ _ h => h) (Or.inl ⟨by rfl, ?y34⟩) (⟨rp0, rc1, rB⟩) ?r34
          case y34 =>
            intro w_ hS_
            go_simp
            try with_reducible rfl
          simp only [Act.put, List.getElem_toArray, List.getElem_cons_succ, List.getElem_cons_zero, List.setIfInBounds_toArray, List.set_cons_succ, List.set_cons_zero]
          refine wpAnyH_take (i := 4) (v := ?v35) rfl (by kernel_rfl) (by kernel_rfl) (by kernel_rfl) (fun _ _ _ h => h) (Or.inl ⟨by rfl, ?y35⟩) (⟨rp0, rc1, rB⟩) ?r35
          case y35 =>
            intro w_ hS_
            go_simp
            try with_reducible rfl
          simp only [Act.put, List.getElem_toArray, List.getElem_cons_succ, List.getElem_cons_zero, List.setIfInBounds_toArray, List.set_cons_succ, List.set_cons_zero]
          refine wpAnyH_take (i := 5) (v := .int .i64 c.s) rfl (by kernel_rfl) (by kernel_rfl) (by kernel_rfl) (fun _ _ _ h => h) (Or.inl ⟨by rfl, ?y36⟩) (⟨rp0, rc1, rB⟩) ?r36
          case y36 =>
            intro w_ hS_
            have c_ := cell_at (hS_.2.1) (ct_s c hcok.1.1 hcok.2.1)
            go_simp
            try with_reducible rfl
          simp only [Act.put, List.getElem_toArray, List.getElem_cons_succ, List.getElem_cons_zero, List.setIfInBounds_toArray, List.set_cons_succ, List.set_cons_zero]
          refine wpAnyH_take (i := 6) (v := ?v37) rfl (by kernel_rfl) (by kernel_rfl) (by kernel_rfl) (fun _ _ _ h => h) (Or.inl ⟨by rfl, ?y37⟩) (⟨rp0, rc1, rB⟩) ?r37
          case y37 =>
            intro w_ hS_
            go_simp
            try with_reducible rfl
          simp only [Act.put, List.getElem_toArray, List.getElem_cons_succ, List.getElem_cons_zero, List.setIfInBounds_toArray, List.set_cons_succ, List.set_cons_zero]
          refine wpAnyH_take (i := 7) (v := ?v38) rfl (by kernel_rfl) (by kernel_rfl) (by kernel_rfl) (fun _ _ _ h => h) (Or.inl ⟨by rfl, ?y38⟩) (⟨rp0, rc1, rB⟩) ?r38
          case y38 =>
            intro w_ hS_
            go_simp
            try with_reducible rfl
          simp only [Act.put, List.getElem_toArray, List.getElem_cons_succ, List.getElem_cons_zero, List.setIfInBounds_toArray, List.set_cons_succ, List.set_cons_zero]
          refine wpAnyH_take (i := 8) (v := ?v39) rfl (by kernel_rfl) (by kernel_rfl) (by kernel_rfl) (fun _ _ _ h => h) (Or.inl ⟨by rfl, ?y39⟩) (⟨rp0, rc1, rB⟩) ?r39
          case y39 =>
            intro w_ hS_
            go_simp
            try with_reducible rfl
          simp only [Act.put, List.getElem_toArray, List.getElem_cons_succ, List.getElem_cons_zero, List.setIfInBounds_toArray, List.set_cons_succ, List.set_cons_zero]
          refine wpAnyH_take (i := 9) (v := ?v40) rfl (by kernel_rfl) (by kernel_rfl) (by kernel_rfl) (fun _ _ _ h => h) (Or.inl ⟨by rfl, ?y40⟩) (⟨rp0, rc1, rB⟩) ?r40
          case y40 =>
            intro w_ hS_
            go_simp
            try with_reducible rfl
          simp only [Act.put, List.getElem_toArray, List.getElem_cons_succ, List.getElem_cons_zero, List.setIfInBounds_toArray, List.set_cons_succ, List.set_cons_zero]
          refine wpAnyH_take (i := 10) (v := .agg (irow .u8 e.k)) rfl (by kernel_rfl) (by kernel_rfl) (by kernel_rfl) (fun _ _ _ h => h) (Or.inl ⟨by rfl, ?y41⟩) (⟨rp0, rc1, rB⟩) ?r41
          case y41 =>
            intro w_ hS_
            simp only [List.getElem_toArray, List.getElem_cons_succ, List.getElem_cons_zero]
            exact e_load_part 23 _ (by rfl) (w.heap.size) 2 (by rfl) 57 (evr e) (0, 0) (irow .u8 e.k) _ (hS_.1) (ev_k e he.1) Tryd.underlying23 rfl (infoKy _ he.1)
          simp only [Act.put, List.getElem_toArray, List.getElem_cons_succ, List.getElem_cons_zero, List.setIfInBounds_toArray, List.set_cons_succ, List.set_cons_zero]
          refine wpAnyH_take (i := 11) (v := .agg (ctr c)) rfl (by kernel_rfl) (by kernel_rfl) (by kernel_rfl) (fun _ _ _ h => h) (Or.inl ⟨by rfl, ?y42⟩) (⟨rp0, rc1, rB⟩) ?r42
          case y42 =>
            intro w_ hS_
            simp only [List.getElem_toArray, List.getElem_cons_succ, List.getElem_cons_zero]
            exact e_load_part 45 _ (by rfl) (gc1) 0 (by rfl) 45 (ctr c) (0, 0) (ctr c) _ (hS_.2.1) (all_rowe _) Tryd.underlying45 rfl (ct_info _ hcok.1.1 hcok.2.1)
          simp only [Act.put, List.getElem_toArray, List.getElem_cons_succ, List.getElem_cons_zero, List.setIfInBounds_toArray, List.set_cons_succ, List.set_cons_zero]
          refine eH_one (k := 12) (fuel := 2) (by kernel_rfl) rfl (by kernel_rfl) (fun K_ hK_ => ?_)
          refine wp_call_ex (f := 25) (by kernel_rfl) (ex1e (a_latest c hcok _)) (fun v_ wq43 hX_ => ?_)
          obtain ⟨rfl, hb⟩ := hX_
          replace rp0 := keep hb rp0
          replace rc1 := keep hb rc1
          replace hB := hB.keep hb
          replace rB := keep hb rB
          replace hw := Below.after hw hb
          clear hb
          refine hK_ _ _ (⟨rp0, rc1, rB⟩) ?_
          simp only [Act.put, List.getElem_toArray, List.getElem_cons_succ, List.getElem_cons_zero, List.setIfInBounds_toArray, List.set_cons_succ, List.set_cons_zero]
          clear hK_
          refine wpAnyH_take (i := 13) (v := ?v44) rfl (by kernel_rfl) (by kernel_rfl) (by kernel_rfl) (fun _ _ _ h => h) (Or.inl ⟨by rfl, ?y44⟩) (⟨rp0, rc1, rB⟩) ?r44
          case y44 =>
            intro w_ hS_
            go_simp
            try with_reducible rfl
          simp only [Act.put, List.getElem_toArray, List.getElem_cons_succ, List.getElem_cons_zero, List.setIfInBounds_toArray, List.set_cons_succ, List.set_cons_zero]
          refine wpAnyH_take (i := 14) (v := ?v45) rfl (by kernel_rfl) (by kernel_rfl) (by kernel_rfl) (fun _ _ _ h => h) (Or.inl ⟨by rfl, ?y45⟩) (⟨rp0, rc1, rB⟩) ?r45
          case y45 =>
            intro w_ hS_
            go_simp
            try with_reducible rfl
          simp only [Act.put, List.getElem_toArray, List.getElem_cons_succ, List.getElem_cons_zero, List.setIfInBounds_toArray, List.set_cons_succ, List.set_cons_zero]
          refine wpAnyH_done (by kernel_rfl) ?_ _
          refine NoPanic.normal ?_
          have fc5 := cell_at rp0 (ev_d e)
          have fc6 := cell_at rp0 (ev_n e)
          have fc7 := cell_at rc1 (ct_n c)
          have fc8 := cell_at rc1 (ct_s c hcok.1.1 hcok.2.1)
          go_wp2_with (first | (refine wpList_load_part rfl 57 _ rfl (w.heap.size) 0 rfl 57 (evr e) (0, 0) (evr e) _ rp0 (all_rowe _) Tryd.underlying57 rfl (ev_info _ he.1) ?_) | (refine wpList_load_part rfl 23 _ rfl (w.heap.size) 2 rfl 57 (evr e) (0, 0) (irow .u8 e.k) _ rp0 (ev_k e he.1) Tryd.underlying23 rfl (infoKy _ he.1) ?_) | (refine wpList_load_part rfl 45 _ rfl (gc1) 0 rfl 45 (ctr c) (0, 0) (ctr c) _ rc1 (all_rowe _) Tryd.underlying45 rfl (ct_info _ hcok.1.1 hcok.2.1) ?_) | (refine wpList_load_part rfl 23 _ rfl (gc1) 1 rfl 45 (ctr c) (0, 0) (irow .u8 c.k) _ rc1 (ct_k c hcok.1.1) Tryd.underlying23 rfl (infoKy _ hcok.1.1) ?_) | (refine wpList_load_part rfl 23 _ rfl (gc1) 33 rfl 45 (ctr c) (0, 0) (irow .u8 c.x) _ rc1 (ct_x c hcok.1.1 hcok.2.1) Tryd.underlying23 rfl (infoKy _ hcok.2.1) ?_) | (refine wpList_build_want rfl 23 _ rfl [] rfl (irow .u8 (zr 32)) builtZk ?_) | fail)
          clear fc5 fc6 fc7 fc8
          have hb : Below wq43.heap.size wq43 wq43.drew := below_drN (Below.refl _ _) 1
          replace rp0 := keep hb rp0
          replace rc1 := keep hb rc1
          replace hB := hB.keep hb
          replace rB := keep hb rB
          replace hw := Below.after hw hb
          clear hb
          refine wp_region_noPanic ?_
          refine wp_region_held (S := fun W_ => W_.heap[w.heap.size]? = some (.cells (evr e) 57 (0, 0)) ∧ W_.heap[gc1]? = some (.cells (ctr c) 45 (0, 0)) ∧ W_.heap[g]? = some (.cells (bkr y (.slice ae es.length ca) (.slice ao cs.length cap)) 51 (0, 0))) (by kernel_rfl) ?_
          change wpAnyH _ _ _ _ _ _ _ _ (World.drew _)
          generalize wq43.drew = wd46 at *
          refine wpAnyH_take (i := 0) (v := ?v47) rfl (by kernel_rfl) (by kernel_rfl) (by kernel_rfl) (fun _ _ _ h => h) (Or.inl ⟨by rfl, ?y47⟩) (⟨rp0, rc1, rB⟩) ?r47
          case y47 =>
            intro w_ hS_
            go_simp
            try with_reducible rfl
          simp only [Act.put, List.getElem_toArray, List.getElem_cons_zero, List.setIfInBounds_toArray, List.set_cons_succ, List.set_cons_zero]
          refine wpAnyH_take (i := 1) (v := ?v48) rfl (by kernel_rfl) (by kernel_rfl) (by kernel_rfl) (fun _ _ _ h => h) (Or.inl ⟨by rfl, ?y48⟩) (⟨rp0, rc1, rB⟩) ?r48
          case y48 =>
            intro w_ hS_
            go_simp
            try with_reducible rfl
          simp only [Act.put, List.getElem_toArray, List.getElem_cons_succ, List.getElem_cons_zero, List.setIfInBounds_toArray, List.set_cons_succ, List.set_cons_zero]
          refine wpAnyH_take (i := 2) (v := .slice ao cs.length cap) rfl (by kernel_rfl) (by kernel_rfl) (by kernel_rfl) (fun _ _ _ h => h) (Or.inl ⟨by rfl, ?y49⟩) (⟨rp0, rc1, rB⟩) ?r49
          case y49 =>
            intro w_ hS_
            have c_ := bkc hkey (hS_.2.2)
            go_simp
            try with_reducible rfl
          simp only [Act.put, List.getElem_toArray, List.getElem_cons_succ, List.getElem_cons_zero, List.setIfInBounds_toArray, List.set_cons_succ, List.set_cons_zero]
          refine wpAnyH_take (i := 3) (v := ?v50) rfl (by kernel_rfl) (by kernel_rfl) (by kernel_rfl) (fun _ _ _ h => h) (Or.inl ⟨by rfl, ?y50⟩) (⟨rp0, rc1, rB⟩) ?r50
          case y50 =>
            intro w_ hS_
            go_simp
            try with_reducible rfl
          simp only [Act.put, List.getElem_toArray, List.getElem_cons_succ, List.getElem_cons_zero, List.setIfInBounds_toArray, List.set_cons_succ, List.set_cons_zero]
          refine wpAnyH_take (i := 4) (v := .string c.n) rfl (by kernel_rfl) (by kernel_rfl) (by kernel_rfl) (fun _ _ _ h => h) (Or.inl ⟨by rfl, ?y51⟩) (⟨rp0, rc1, rB⟩) ?r51
          case y51 =>
            intro w_ hS_
            have c_ := cell_at (hS_.2.1) (ct_n c)
            go_simp
            try with_reducible rfl
          simp only [Act.put, List.getElem_toArray, List.getElem_cons_succ, List.getElem_cons_zero, List.setIfInBounds_toArray, List.set_cons_succ, List.set_cons_zero]
          refine wpAnyH_take (i := 5) (v := ?v52) rfl (by kernel_rfl) (by kernel_rfl) (by kernel_rfl) (fun _ _ _ h => h) (Or.inl ⟨by rfl, ?y52⟩) (⟨rp0, rc1, rB⟩) ?r52
          case y52 =>
            intro w_ hS_
            go_simp
            try with_reducible rfl
          simp only [Act.put, List.getElem_toArray, List.getElem_cons_succ, List.getElem_cons_zero, List.setIfInBounds_toArray, List.set_cons_succ, List.set_cons_zero]
          refine wpAnyH_take (i := 6) (v := .agg (irow .u8 e.k)) rfl (by kernel_rfl) (by kernel_rfl) (by kernel_rfl) (fun _ _ _ h => h) (Or.inl ⟨by rfl, ?y53⟩) (⟨rp0, rc1, rB⟩) ?r53
          case y53 =>
            intro w_ hS_
            simp only [List.getElem_toArray, List.getElem_cons_succ, List.getElem_cons_zero]
            exact e_load_part 23 _ (by rfl) (w.heap.size) 2 (by rfl) 57 (evr e) (0, 0) (irow .u8 e.k) _ (hS_.1) (ev_k e he.1) Tryd.underlying23 rfl (infoKy _ he.1)
          simp only [Act.put, List.getElem_toArray, List.getElem_cons_succ, List.getElem_cons_zero, List.setIfInBounds_toArray, List.set_cons_succ, List.set_cons_zero]
          refine wpAnyH_take (i := 7) (v := .agg (ctr ⟨c.n, e.k, zr 32, 2⟩)) rfl (by kernel_rfl) (by kernel_rfl) (by kernel_rfl) (fun _ _ _ h => h) (Or.inl ⟨by rfl, ?y54⟩) (⟨rp0, rc1, rB⟩) ?r54
          case y54 =>
            intro w_ hS_
            simp only [List.getElem_toArray, List.getElem_cons_succ, List.getElem_cons_zero]
            exact run_build_op 45 _ (by rfl) [(0, .string c.n), (1, .agg (irow .u8 e.k)), (3, .int .i64 2)] (by rfl) _ (bt_3 c.n e.k 2 he.1)
          simp only [Act.put, List.getElem_toArray, List.getElem_cons_succ, List.getElem_cons_zero, List.setIfInBounds_toArray, List.set_cons_succ, List.set_cons_zero]
          refine eH_one (k := 8) (fuel := 0) (by kernel_rfl) rfl (by kernel_rfl) (fun K_ hK_ => ?_)
          refine wp_call_ex (f := 64) (R := fun v_ w_ => v_ = .tuple #[] ∧ OwnC w_ b (Value.slice ao cs.length cap) (putC cs ⟨c.n, e.k, zr 32, 2⟩) ∧ Fr (fun k => (Value.slice ao cs.length cap).ownBlock = some k) wd46 w_) (by kernel_rfl) ((a_put cs ⟨c.n, e.k, zr 32, 2⟩ ⟨he, k32_zero⟩ b _ _ hB.cts hB.srt (by omega) hth).mono (fun e_ w_ h_ => ⟨_, h_.1, rfl, h_.2⟩)) (fun v_ wq55 hX_ => ?_)
          obtain ⟨rfl, hO2, hF2⟩ := hX_
          have hB2 := hB.put (c := ⟨c.n, e.k, zr 32, 2⟩) hth (by simp) hO2 hF2
          have hT : Fr (ownB g (Value.slice ae es.length ca) (Value.slice ao cs.length cap)) w wq55 := (Fr.of hw).step (hF2.book (ve := (Value.slice ae es.length ca)) (g := g)) (fun _ _ q => q)
          have hS2 : wq55.heap[w.heap.size]? = some (.cells (evr e) 57 (0, 0)) ∧ wq55.heap[gc1]? = some (.cells (ctr c) 45 (0, 0)) ∧ wq55.heap[g]? = some (.cells (bkr y (.slice ae es.length ca) (.slice ao cs.length cap)) 51 (0, 0)) := ⟨hF2.row rp0 (own_type hB.cts.1 rp0 (by decide)), (hF2.row rc1 (fun q => by have := hlc1 _ q; omega)), hB2.row⟩
          refine hK_ _ _ hS2 ?_
          simp only [Act.put, List.getElem_toArray, List.getElem_cons_succ, List.getElem_cons_zero, List.setIfInBounds_toArray, List.set_cons_succ, List.set_cons_zero]
          clear hK_
          refine wpAnyH_done (by kernel_rfl) ?_ _
          refine NoPanic.normal ?_
          go_wp2_with (fail)
          go_ret
          exact ⟨by rw [hu.out]; rfl, by rw [hu.out]; exact hB2, hT⟩
      · skip
        have pS0 : ¬ c.s = 0 := by simpa using dS0
        have pS4 : c.s = 4 := by simpa using dS4
        have hu : Hid (up4 c e = none) := hide (by unfold up4; exact if_neg (fun h => h.2.1 pS4))
        clear  hst hnm
        go_wp2_with (fail)
        have hb : Below wc.heap.size wc wc.drew := below_drN (Below.refl _ _) 1
        replace rp0 := keep hb rp0
        replace rc1 := keep hb rc1
        replace hB := hB.keep hb
        replace rB := keep hb rB
        replace hw := Below.after hw hb
        clear hb
        refine wp_region_noPanic ?_
        refine wp_region_held (S := fun W_ => W_.heap[w.heap.size]? = some (.cells (evr e) 57 (0, 0)) ∧ W_.heap[gc1]? = some (.cells (ctr c) 45 (0, 0)) ∧ W_.heap[g]? = some (.cells (bkr y (.slice ae es.length ca) (.slice ao cs.length cap)) 51 (0, 0))) (by kernel_rfl) ?_
        change wpAnyH _ _ _ _ _ _ _ _ (World.drew _)
        generalize wc.drew = wd56 at *
        refine wpAnyH_take (i := 0) (v := ?v57) rfl (by kernel_rfl) (by kernel_rfl) (by kernel_rfl) (fun _ _ _ h => h) (Or.inl ⟨by rfl, ?y57⟩) (⟨rp0, rc1, rB⟩) ?r57
        case y57 =>
          intro w_ hS_
          go_simp
          try with_reducible rfl
        simp only [Act.put, List.getElem_toArray, List.getElem_cons_zero, List.setIfInBounds_toArray, List.set_cons_succ, List.set_cons_zero]
        refine wpAnyH_take (i := 1) (v := .int .i64 c.s) rfl (by kernel_rfl) (by kernel_rfl) (by kernel_rfl) (fun _ _ _ h => h) (Or.inl ⟨by rfl, ?y58⟩) (⟨rp0, rc1, rB⟩) ?r58
        case y58 =>
          intro w_ hS_
          have c_ := cell_at (hS_.2.1) (ct_s c hcok.1.1 hcok.2.1)
          go_simp
          try with_reducible rfl
        simp only [Act.put, List.getElem_toArray, List.getElem_cons_succ, List.getElem_cons_zero, List.setIfInBounds_toArray, List.set_cons_succ, List.set_cons_zero]
        refine wpAnyH_take (i := 2) (v := ?v59) rfl (by kernel_rfl) (by kernel_rfl) (by kernel_rfl) (fun _ _ _ h => h) (Or.inl ⟨by rfl, ?y59⟩) (⟨rp0, rc1, rB⟩) ?r59
        case y59 =>
          intro w_ hS_
          go_simp
          try with_reducible rfl
        simp only [Act.put, List.getElem_toArray, List.getElem_cons_succ, List.getElem_cons_zero, List.setIfInBounds_toArray, List.set_cons_succ, List.set_cons_zero]
        refine wpAnyH_take (i := 3) (v := ?v60) rfl (by kernel_rfl) (by kernel_rfl) (by kernel_rfl) (fun _ _ _ h => h) (Or.inl ⟨by rfl, ?y60⟩) (⟨rp0, rc1, rB⟩) ?r60
        case y60 =>
          intro w_ hS_
          go_simp
          try with_reducible rfl
        simp only [Act.put, List.getElem_toArray, List.getElem_cons_succ, List.getElem_cons_zero, List.setIfInBounds_toArray, List.set_cons_succ, List.set_cons_zero]
        refine wpAnyH_take (i := 4) (v := ?v61) rfl (by kernel_rfl) (by kernel_rfl) (by kernel_rfl) (fun _ _ _ h => h) (Or.inl ⟨by rfl, ?y61⟩) (⟨rp0, rc1, rB⟩) ?r61
        case y61 =>
          intro w_ hS_
          go_simp
          try with_reducible rfl
        simp only [Act.put, List.getElem_toArray, List.getElem_cons_succ, List.getElem_cons_zero, List.setIfInBounds_toArray, List.set_cons_succ, List.set_cons_zero]
        refine wpAnyH_take (i := 5) (v := .int .i64 c.s) rfl (by kernel_rfl) (by kernel_rfl) (by kernel_rfl) (fun _ _ _ h => h) (Or.inl ⟨by rfl, ?y62⟩) (⟨rp0, rc1, rB⟩) ?r62
        case y62 =>
          intro w_ hS_
          have c_ := cell_at (hS_.2.1) (ct_s c hcok.1.1 hcok.2.1)
          go_simp
          try with_reducible rfl
        simp only [Act.put, List.getElem_toArray, List.getElem_cons_succ, List.getElem_cons_zero, List.setIfInBounds_toArray, List.set_cons_succ, List.set_cons_zero]
        refine wpAnyH_take (i := 6) (v := ?v63) rfl (by kernel_rfl) (by kernel_rfl) (by kernel_rfl) (fun _ _ _ h => h) (Or.inl ⟨by rfl, ?y63⟩) (⟨rp0, rc1, rB⟩) ?r63
        case y63 =>
          intro w_ hS_
          go_simp
          try with_reducible rfl
        simp only [Act.put, List.getElem_toArray, List.getElem_cons_succ, List.getElem_cons_zero, List.setIfInBounds_toArray, List.set_cons_succ, List.set_cons_zero]
        refine wpAnyH_take (i := 7) (v := ?v64) rfl (by kernel_rfl) (by kernel_rfl) (by kernel_rfl) (fun _ _ _ h => h) (Or.inl ⟨by rfl, ?y64⟩) (⟨rp0, rc1, rB⟩) ?r64
        case y64 =>
          intro w_ hS_
          go_simp
          try with_reducible rfl
        simp only [Act.put, List.getElem_toArray, List.getElem_cons_succ, List.getElem_cons_zero, List.setIfInBounds_toArray, List.set_cons_succ, List.set_cons_zero]
        refine wpAnyH_take (i := 8) (v := ?v65) rfl (by kernel_rfl) (by kernel_rfl) (by kernel_rfl) (fun _ _ _ h => h) (Or.inl ⟨by rfl, ?y65⟩) (⟨rp0, rc1, rB⟩) ?r65
        case y65 =>
          intro w_ hS_
          go_simp
          try with_reducible rfl
        simp only [Act.put, List.getElem_toArray, List.getElem_cons_succ, List.getElem_cons_zero, List.setIfInBounds_toArray, List.set_cons_succ, List.set_cons_zero]
        refine wpAnyH_take (i := 9) (v := undef) rfl (by kernel_rfl) (by kernel_rfl) (by kernel_rfl) (fun _ _ _ h => h) (Or.inr ⟨by rfl, rfl⟩) (⟨rp0, rc1, rB⟩) ?_
        simp only [Act.put, List.getElem_toArray, List.getElem_cons_succ, List.getElem_cons_zero, List.setIfInBounds_toArray, List.set_cons_succ, List.set_cons_zero]
        refine wpAnyH_take (i := 10) (v := undef) rfl (by kernel_rfl) (by kernel_rfl) (by kernel_rfl) (fun _ _ _ h => h) (Or.inr ⟨by rfl, rfl⟩) (⟨rp0, rc1, rB⟩) ?_
        simp only [Act.put, List.getElem_toArray, List.getElem_cons_succ, List.getElem_cons_zero, List.setIfInBounds_toArray, List.set_cons_succ, List.set_cons_zero]
        refine wpAnyH_take (i := 11) (v := undef) rfl (by kernel_rfl) (by kernel_rfl) (by kernel_rfl) (fun _ _ _ h => h) (Or.inr ⟨by rfl, rfl⟩) (⟨rp0, rc1, rB⟩) ?_
        simp only [Act.put, List.getElem_toArray, List.getElem_cons_succ, List.getElem_cons_zero, List.setIfInBounds_toArray, List.set_cons_succ, List.set_cons_zero]
        refine wpAnyH_skip (k := 12) (fuel := 2) (by kernel_rfl) rfl (by rfl) (⟨rp0, rc1, rB⟩) ?_
        simp only [Act.put, List.getElem_toArray, List.getElem_cons_succ, List.getElem_cons_zero, List.setIfInBounds_toArray, List.set_cons_succ, List.set_cons_zero]
        refine wpAnyH_take (i := 13) (v := undef) rfl (by kernel_rfl) (by kernel_rfl) (by kernel_rfl) (fun _ _ _ h => h) (Or.inr ⟨by rfl, rfl⟩) (⟨rp0, rc1, rB⟩) ?_
        simp only [Act.put, List.getElem_toArray, List.getElem_cons_succ, List.getElem_cons_zero, List.setIfInBounds_toArray, List.set_cons_succ, List.set_cons_zero]
        refine wpAnyH_take (i := 14) (v := ?v70) rfl (by kernel_rfl) (by kernel_rfl) (by kernel_rfl) (fun _ _ _ h => h) (Or.inl ⟨by rfl, ?y70⟩) (⟨rp0, rc1, rB⟩) ?r70
        case y70 =>
          intro w_ hS_
          go_simp
          try with_reducible rfl
        simp only [Act.put, List.getElem_toArray, List.getElem_cons_succ, List.getElem_cons_zero, List.setIfInBounds_toArray, List.set_cons_succ, List.set_cons_zero]
        refine wpAnyH_done (by kernel_rfl) ?_ _
        refine NoPanic.normal ?_
        have fc9 := cell_at rp0 (ev_d e)
        have fc10 := cell_at rp0 (ev_n e)
        have fc11 := cell_at rc1 (ct_n c)
        have fc12 := cell_at rc1 (ct_s c hcok.1.1 hcok.2.1)
        go_wp2_with (first | (refine wpList_load_part rfl 57 _ rfl (w.heap.size) 0 rfl 57 (evr e) (0, 0) (evr e) _ rp0 (all_rowe _) Tryd.underlying57 rfl (ev_info _ he.1) ?_) | (refine wpList_load_part rfl 23 _ rfl (w.heap.size) 2 rfl 57 (evr e) (0, 0) (irow .u8 e.k) _ rp0 (ev_k e he.1) Tryd.underlying23 rfl (infoKy _ he.1) ?_) | (refine wpList_load_part rfl 45 _ rfl (gc1) 0 rfl 45 (ctr c) (0, 0) (ctr c) _ rc1 (all_rowe _) Tryd.underlying45 rfl (ct_info _ hcok.1.1 hcok.2.1) ?_) | (refine wpList_load_part rfl 23 _ rfl (gc1) 1 rfl 45 (ctr c) (0, 0) (irow .u8 c.k) _ rc1 (ct_k c hcok.1.1) Tryd.underlying23 rfl (infoKy _ hcok.1.1) ?_) | (refine wpList_load_part rfl 23 _ rfl (gc1) 33 rfl 45 (ctr c) (0, 0) (irow .u8 c.x) _ rc1 (ct_x c hcok.1.1 hcok.2.1) Tryd.underlying23 rfl (infoKy _ hcok.2.1) ?_) | (refine wpList_build_want rfl 23 _ rfl [] rfl (irow .u8 (zr 32)) builtZk ?_) | fail)
        clear fc9 fc10 fc11 fc12
        go_ret
        exact ⟨by rw [hu.out]; rfl, by rw [hu.out]; exact hB, Fr.of hw⟩
    · skip
      have pS0 : c.s = 0 := by simpa using dS0
      have hu : Hid (up4 c e = none) := hide (by unfold up4; exact if_neg (fun h => h.1 pS0))
      clear  hst hnm
      go_wp2_with (fail)
      have hb : Below wc.heap.size wc wc.drew := below_drN (Below.refl _ _) 1
      replace rp0 := keep hb rp0
      replace rc1 := keep hb rc1
      replace hB := hB.keep hb
      replace rB := keep hb rB
      replace hw := Below.after hw hb
      clear hb
      refine wp_region_noPanic ?_
      refine wp_region_held (S := fun W_ => W_.heap[w.heap.size]? = some (.cells (evr e) 57 (0, 0)) ∧ W_.heap[gc1]? = some (.cells (ctr c) 45 (0, 0)) ∧ W_.heap[g]? = some (.cells (bkr y (.slice ae es.length ca) (.slice ao cs.length cap)) 51 (0, 0))) (by kernel_rfl) ?_
      change wpAnyH _ _ _ _ _ _ _ _ (World.drew _)
      generalize wc.drew = wd71 at *
      refine wpAnyH_take (i := 0) (v := ?v72) rfl (by kernel_rfl) (by kernel_rfl) (by kernel_rfl) (fun _ _ _ h => h) (Or.inl ⟨by rfl, ?y72⟩) (⟨rp0, rc1, rB⟩) ?r72
      case y72 =>
        intro w_ hS_
        go_simp
        try with_reducible rfl
      simp only [Act.put, List.getElem_toArray, List.getElem_cons_zero, List.setIfInBounds_toArray, List.set_cons_succ, List.set_cons_zero]
      refine wpAnyH_take (i := 1) (v := .int .i64 c.s) rfl (by kernel_rfl) (by kernel_rfl) (by kernel_rfl) (fun _ _ _ h => h) (Or.inl ⟨by rfl, ?y73⟩) (⟨rp0, rc1, rB⟩) ?r73
      case y73 =>
        intro w_ hS_
        have c_ := cell_at (hS_.2.1) (ct_s c hcok.1.1 hcok.2.1)
        go_simp
        try with_reducible rfl
      simp only [Act.put, List.getElem_toArray, List.getElem_cons_succ, List.getElem_cons_zero, List.setIfInBounds_toArray, List.set_cons_succ, List.set_cons_zero]
      refine wpAnyH_take (i := 2) (v := ?v74) rfl (by kernel_rfl) (by kernel_rfl) (by kernel_rfl) (fun _ _ _ h => h) (Or.inl ⟨by rfl, ?y74⟩) (⟨rp0, rc1, rB⟩) ?r74
      case y74 =>
        intro w_ hS_
        go_simp
        try with_reducible rfl
      simp only [Act.put, List.getElem_toArray, List.getElem_cons_succ, List.getElem_cons_zero, List.setIfInBounds_toArray, List.set_cons_succ, List.set_cons_zero]
      refine wpAnyH_take (i := 3) (v := ?v75) rfl (by kernel_rfl) (by kernel_rfl) (by kernel_rfl) (fun _ _ _ h => h) (Or.inl ⟨by rfl, ?y75⟩) (⟨rp0, rc1, rB⟩) ?r75
      case y75 =>
        intro w_ hS_
        go_simp
        try with_reducible rfl
      simp only [Act.put, List.getElem_toArray, List.getElem_cons_succ, List.getElem_cons_zero, List.setIfInBounds_toArray, List.set_cons_succ, List.set_cons_zero]
      refine wpAnyH_take (i := 4) (v := undef) rfl (by kernel_rfl) (by kernel_rfl) (by kernel_rfl) (fun _ _ _ h => h) (Or.inr ⟨by rfl, rfl⟩) (⟨rp0, rc1, rB⟩) ?_
      simp only [Act.put, List.getElem_toArray, List.getElem_cons_succ, List.getElem_cons_zero, List.setIfInBounds_toArray, List.set_cons_succ, List.set_cons_zero]
      refine wpAnyH_take (i := 5) (v := undef) rfl (by kernel_rfl) (by kernel_rfl) (by kernel_rfl) (fun _ _ _ h => h) (Or.inr ⟨by rfl, rfl⟩) (⟨rp0, rc1, rB⟩) ?_
      simp only [Act.put, List.getElem_toArray, List.getElem_cons_succ, List.getElem_cons_zero, List.setIfInBounds_toArray, List.set_cons_succ, List.set_cons_zero]
      refine wpAnyH_take (i := 6) (v := undef) rfl (by kernel_rfl) (by kernel_rfl) (by kernel_rfl) (fun _ _ _ h => h) (Or.inr ⟨by rfl, rfl⟩) (⟨rp0, rc1, rB⟩) ?_
      simp only [Act.put, List.getElem_toArray, List.getElem_cons_succ, List.getElem_cons_zero, List.setIfInBounds_toArray, List.set_cons_succ, List.set_cons_zero]
      refine wpAnyH_take (i := 7) (v := ?v79) rfl (by kernel_rfl) (by kernel_rfl) (by kernel_rfl) (fun _ _ _ h => h) (Or.inl ⟨by rfl, ?y79⟩) (⟨rp0, rc1, rB⟩) ?r79
      case y79 =>
        intro w_ hS_
        go_simp
        try with_reducible rfl
      simp only [Act.put, List.getElem_toArray, List.getElem_cons_succ, List.getElem_cons_zero, List.setIfInBounds_toArray, List.set_cons_succ, List.set_cons_zero]
      refine wpAnyH_take (i := 8) (v := ?v80) rfl (by kernel_rfl) (by kernel_rfl) (by kernel_rfl) (fun _ _ _ h => h) (Or.inl ⟨by rfl, ?y80⟩) (⟨rp0, rc1, rB⟩) ?r80
      case y80 =>
        intro w_ hS_
        go_simp
        try with_reducible rfl
      simp only [Act.put, List.getElem_toArray, List.getElem_cons_succ, List.getElem_cons_zero, List.setIfInBounds_toArray, List.set_cons_succ, List.set_cons_zero]
      refine wpAnyH_take (i := 9) (v := undef) rfl (by kernel_rfl) (by kernel_rfl) (by kernel_rfl) (fun _ _ _ h => h) (Or.inr ⟨by rfl, rfl⟩) (⟨rp0, rc1, rB⟩) ?_
      simp only [Act.put, List.getElem_toArray, List.getElem_cons_succ, List.getElem_cons_zero, List.setIfInBounds_toArray, List.set_cons_succ, List.set_cons_zero]
      refine wpAnyH_take (i := 10) (v := undef) rfl (by kernel_rfl) (by kernel_rfl) (by kernel_rfl) (fun _ _ _ h => h) (Or.inr ⟨by rfl, rfl⟩) (⟨rp0, rc1, rB⟩) ?_
      simp only [Act.put, List.getElem_toArray, List.getElem_cons_succ, List.getElem_cons_zero, List.setIfInBounds_toArray, List.set_cons_succ, List.set_cons_zero]
      refine wpAnyH_take (i := 11) (v := undef) rfl (by kernel_rfl) (by kernel_rfl) (by kernel_rfl) (fun _ _ _ h => h) (Or.inr ⟨by rfl, rfl⟩) (⟨rp0, rc1, rB⟩) ?_
      simp only [Act.put, List.getElem_toArray, List.getElem_cons_succ, List.getElem_cons_zero, List.setIfInBounds_toArray, List.set_cons_succ, List.set_cons_zero]
      refine wpAnyH_skip (k := 12) (fuel := 2) (by kernel_rfl) rfl (by rfl) (⟨rp0, rc1, rB⟩) ?_
      simp only [Act.put, List.getElem_toArray, List.getElem_cons_succ, List.getElem_cons_zero, List.setIfInBounds_toArray, List.set_cons_succ, List.set_cons_zero]
      refine wpAnyH_take (i := 13) (v := undef) rfl (by kernel_rfl) (by kernel_rfl) (by kernel_rfl) (fun _ _ _ h => h) (Or.inr ⟨by rfl, rfl⟩) (⟨rp0, rc1, rB⟩) ?_
      simp only [Act.put, List.getElem_toArray, List.getElem_cons_succ, List.getElem_cons_zero, List.setIfInBounds_toArray, List.set_cons_succ, List.set_cons_zero]
      refine wpAnyH_take (i := 14) (v := ?v85) rfl (by kernel_rfl) (by kernel_rfl) (by kernel_rfl) (fun _ _ _ h => h) (Or.inl ⟨by rfl, ?y85⟩) (⟨rp0, rc1, rB⟩) ?r85
      case y85 =>
        intro w_ hS_
        go_simp
        try with_reducible rfl
      simp only [Act.put, List.getElem_toArray, List.getElem_cons_succ, List.getElem_cons_zero, List.setIfInBounds_toArray, List.set_cons_succ, List.set_cons_zero]
      refine wpAnyH_done (by kernel_rfl) ?_ _
      refine NoPanic.normal ?_
      have fc13 := cell_at rp0 (ev_d e)
      have fc14 := cell_at rp0 (ev_n e)
      have fc15 := cell_at rc1 (ct_n c)
      have fc16 := cell_at rc1 (ct_s c hcok.1.1 hcok.2.1)
      go_wp2_with (first | (refine wpList_load_part rfl 57 _ rfl (w.heap.size) 0 rfl 57 (evr e) (0, 0) (evr e) _ rp0 (all_rowe _) Tryd.underlying57 rfl (ev_info _ he.1) ?_) | (refine wpList_load_part rfl 23 _ rfl (w.heap.size) 2 rfl 57 (evr e) (0, 0) (irow .u8 e.k) _ rp0 (ev_k e he.1) Tryd.underlying23 rfl (infoKy _ he.1) ?_) | (refine wpList_load_part rfl 45 _ rfl (gc1) 0 rfl 45 (ctr c) (0, 0) (ctr c) _ rc1 (all_rowe _) Tryd.underlying45 rfl (ct_info _ hcok.1.1 hcok.2.1) ?_) | (refine wpList_load_part rfl 23 _ rfl (gc1) 1 rfl 45 (ctr c) (0, 0) (irow .u8 c.k) _ rc1 (ct_k c hcok.1.1) Tryd.underlying23 rfl (infoKy _ hcok.1.1) ?_) | (refine wpList_load_part rfl 23 _ rfl (gc1) 33 rfl 45 (ctr c) (0, 0) (irow .u8 c.x) _ rc1 (ct_x c hcok.1.1 hcok.2.1) Tryd.underlying23 rfl (infoKy _ hcok.2.1) ?_) | (refine wpList_build_want rfl 23 _ rfl [] rfl (irow .u8 (zr 32)) builtZk ?_) | fail)
      clear fc13 fc14 fc15 fc16
      go_ret
      exact ⟨by rw [hu.out]; rfl, by rw [hu.out]; exact hB, Fr.of hw⟩
end Go.Proofs.YtlbcdjflcghkeaaDoor
