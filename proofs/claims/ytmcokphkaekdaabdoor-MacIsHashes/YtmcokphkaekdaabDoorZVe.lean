import Derived.Test.YtmcokphkaekdaabDoorProg
import Derived.WalkKit
import Derived.WalkSpells
import Derived.WalkLawsBesides
import Derived.Lib.QuietBelow
import Derived.BigQuiet
import Derived.Test.YtmcokphkaekdaabDoorS0
import Derived.Test.YtmcokphkaekdaabDoorS3
import Derived.Deep.RegionHeld3
import Derived.OwnWalk
namespace Go.Proofs.YtmcokphkaekdaabDoor
open Go Go.RowKit Go.Sort
attribute [local go_sem] setCell_drewN alloc_drewN

set_option maxRecDepth 100000 in
set_option maxHeartbeats 8000000 in
theorem isHashes_L (key bs : List Int) (w : World) (vk vb : Value) (hS : Sta w) (hK : Kon w) (hKy : BysN w vk key) (qK : ∀ a l c, vk = .slice a l c → l ≤ c) (hB : BysN w vb bs) (qB : ∀ a l c, vb = .slice a l c → l ≤ c) (hl : 64 < key.length) : Calls Tryd.prog 3 #[vk, vb] w fun e w' => e = .returned (.bool true) ∧ Below w.heap.size w w' := by
  have lK : key.length ≤ 140737488351232 := hKy.2.1
  have lB : bs.length ≤ 140737488351232 := hB.2.1
  have zK := bys_bd hKy.1
  have zB := bys_bd hB.1
  replace hKy := hKy.toM
  replace hB := hB.toM
  have hw := Below.refl w.heap.size w
  obtain ⟨uk, ukc, rfl, _⟩ := id hKy.1
  obtain ⟨ub, ubc, rfl, _⟩ := id hB.1
  have hks : ksh key = (sumL key) := by rw [ksh, if_pos hl]
  go_enter Tryd.func3, Tryd.ntmps3
  replace hks := hide hks
  go_wp2_with (fail)
  have hp_ := hp1_0 w (.cells #[.slice uk key.length ukc] 22)
  skip
  refine (l_joined [key] _ _ (Pcs.one hp_ ((hKy.nb).keep ((Below.refl _ _).alloc (Nat.le_refl _) _))) (by simp; omega)).mono ?_
  rintro e_ w1 ⟨voK, rfl, oK, hb⟩
  replace hb := Below.after ((Below.refl w.heap.size w).alloc (Nat.le_refl _) _) hb
  replace oK : w1.ownsRow w.heap.size 5 1 voK _ _ := own_lower oK (by rw [size_alloc1]; omega)
  rw [show [key].flatten = key by simp] at oK
  clear hp_
  replace hw := Below.after hw hb
  clear hb
  obtain ⟨ko, kc, rfl⟩ := slen_own oK
  have hd : decide ((64 : Int) < (key.length : Int)) = true := decide_eq_true (by omega)
  have cS := a_sum key w1 _ (hS.below hw) (hK.below hw) (Bys.of_own oK (by omega) zK) (own_cap oK) (by omega)
  have hSl := sumL_len key
  have hSz := sumL_bd key
  generalize sumL key = KS at *
  go_wp2_with (fail)
  refine cS.mono ?_
  rintro e_ w2 ⟨rfl, hb⟩
  replace hw := Below.after hw hb
  clear hb cS oK
  have rS := hp1_0 w2 (.cells (irow .u8 KS) 25)
  have hba : Below w2.heap.size w2 (w2.alloc (.cells (irow .u8 KS) 25)) := (Below.refl _ _).alloc (Nat.le_refl _) _
  replace hw := Below.after hw hba
  clear hba
  have sk := slice_k
  go_wp2_with (first | (refine wpList_alloc rfl 25 rfl (irow .u8 (zr 32)) zkey ?_) | (refine wpList_store_row rfl 25 _ _ rfl (w2.heap.size) (irow .u8 KS) rfl rfl 25 _ (hp1_0 w2 _) (infok8 _ hSl) (fit32 _ _ (zr_len 32) hSl) (irow_one _ _) ?_; rw [setRow_alloc_new _ _ _ _ _ _ rfl]) | fail)
  have hs3 := size_alloc1 w2 (.cells (irow .u8 KS) 25)
  generalize w2.alloc (.cells (irow .u8 KS) 25) = w3 at *
  generalize w2.heap.size = gS at *
  go_wp2_with (fail)
  have hp_ := hp1_0 w3 (.cells #[.slice (some ⟨gS, 0, none⟩) 32 32] 22)
  rw [hs3] at hp_
  refine (l_joined [KS] _ _ (Pcs.one hp_ ((NB.of_row rS (by omega) hSz 32 32 hSl).keep ((Below.refl _ _).alloc (Nat.le_refl _) _))) (by simp; omega)).mono ?_
  rintro e_ w4 ⟨voS, rfl, oS, hb⟩
  replace hb := Below.after ((Below.refl w3.heap.size w3).alloc (Nat.le_refl _) _) hb
  replace oS : w4.ownsRow w3.heap.size 5 1 voS _ _ := own_lower oS (by rw [size_alloc1]; omega)
  rw [show [KS].flatten = KS by simp] at oS
  clear hp_
  replace hw := Below.after hw hb
  clear hb rS
  rw [hSl] at oS
  obtain ⟨so, sc, rfl⟩ := slen_own oS
  have hN64 : 32 ≤ 64 := by omega
  have hsZ := hw.size
  have hmk1 : (Instr.makeSlice 22 (.int .i64 64) (.int .i64 64)).run Tryd.prog w4 = .ok (.slice (some ⟨w4.heap.size, 0, none⟩) 64 64) (w4.alloc (.cells (irow .u8 (zr 64)) 5)) := make_i64 64 (by decide) w4
  have hmk2 : (Instr.makeSlice 22 (.int .i64 64) (.int .i64 64)).run Tryd.prog (w4.alloc (.cells (irow .u8 (zr 64)) 5)) = .ok (.slice (some ⟨w4.heap.size + 1, 0, none⟩) 64 64) ((w4.alloc (.cells (irow .u8 (zr 64)) 5)).alloc (.cells (irow .u8 (zr 64)) 5)) := by
    have h := make_i64 64 (by decide) (w4.alloc (.cells (irow .u8 (zr 64)) 5))
    rw [size_alloc1] at h
    exact h
  have hb2 : Below w4.heap.size w4 ((w4.alloc (.cells (irow .u8 (zr 64)) 5)).alloc (.cells (irow .u8 (zr 64)) 5)) := bel2 w4 _ _
  have ri : ((w4.alloc (.cells (irow .u8 (zr 64)) 5)).alloc (.cells (irow .u8 (zr 64)) 5)).heap[w4.heap.size]? = some (.cells (irow .u8 (mix (kin key) (zr 64) 0)) 5 (0, 0)) := by rw [mix_zero]; exact hp2_0 w4 _ _
  have ro : ((w4.alloc (.cells (irow .u8 (zr 64)) 5)).alloc (.cells (irow .u8 (zr 64)) 5)).heap[w4.heap.size + 1]? = some (.cells (irow .u8 (mix (kout key) (zr 64) 0)) 5 (0, 0)) := by rw [mix_zero]; exact hp2_1 w4 _ _
  have so_ : ∀ g, (Value.slice so 32 sc).ownBlock = some g → g < w4.heap.size := fun g h => (oS.lt g h).2
  replace so_ := hide so_
  replace oS := own_keep oS hb2
  replace hw := Below.after hw hb2
  have hsW := hb2.size
  have hsw := hw.size
  clear hb2
  go_wp2
  clear hmk1 hmk2
  generalize ((w4.alloc (.cells (irow .u8 (zr 64)) 5)).alloc (.cells (irow .u8 (zr 64)) 5)) = w5 at *
  generalize w4.heap.size = gi at *
  have hil := kin_len key
  have hol := kout_len key
  have hz64 := zr_len 64
  have hgi : ∀ j, j < 64 → (kin key).getD j 0 = bits .xor .u8 (KS.getD j 0) 54 := fun j hj => by
    rw [kin, xl_get _ _ _ (by rw [kb64_len]; exact hj), kb64_get, hks.out]
  have hgo : ∀ j, j < 64 → (kout key).getD j 0 = bits .xor .u8 (KS.getD j 0) 92 := fun j hj => by
    rw [kout, xl_get _ _ _ (by rw [kb64_len]; exact hj), kb64_get, hks.out]
  replace hgi := hide hgi
  replace hgo := hide hgo
  go_loopw [9] (fun i wr => ∃ j : Nat, j ≤ 64 ∧ i = .int .i64 j ∧ wr.heap[gi]? = some (.cells (irow .u8 (mix (kin key) (zr 64) j)) 5 (0, 0)) ∧ wr.heap[gi + 1]? = some (.cells (irow .u8 (mix (kout key) (zr 64) j)) 5 (0, 0)) ∧ (∀ j, j < 32 → ∃ g, so = some ⟨g, 0, none⟩ ∧ wr.cell? ⟨g, j, none⟩ = some (.int .u8 (KS.getD j 0))) ∧ Below w.heap.size w wr) (fun i _ => 64 - (intOf i).toNat)
  case atStart =>
    refine ⟨0, by omega, rfl, ri, ro, fun j hj => ?_, hw⟩
    obtain ⟨g, cap, e, _, _, hc, _⟩ := own_at oS hj
    cases e
    exact ⟨g, rfl, hc⟩
  case round =>
    clear ri ro hw
    obtain ⟨j, hj, rfl, ri, ro, hc, hw⟩ := hrel
    by_cases hlt : j < 64
    · have hd : decide ((j : Int) < 64) = true := by simp; omega
      have s1 := mix_set (kin key) (zr 64) j (by omega) (by omega)
      have s2 := mix_set (kout key) (zr 64) j (by omega) (by omega)
      have m1 := mix_length (kin key) (zr 64) j (by omega) (by omega)
      have m2 := mix_length (kout key) (zr 64) j (by omega) (by omega)
      rw [hgi.out j hlt] at s1
      rw [hgo.out j hlt] at s2
      by_cases hin : j < 32
      · have hd2 : decide ((j : Int) < 32) = true := by simp; omega
        obtain ⟨g, eg, ck⟩ := hc j hin
        subst eg
        have hgg : g < gi := so_.out g rfl
        have c1 := irow_cell ri (j := j) (by omega)
        have cf1 := row_frozen ri j
        have r1 := irow_set ri j (bits .xor .u8 (KS.getD j 0) 54)
        rw [s1] at r1
        have ro1 : (wr.setCell ⟨gi, j, none⟩ (.int .u8 (bits .xor .u8 (KS.getD j 0) 54))).heap[gi + 1]? = _ := heap_other ro (by omega)
        have c2 := irow_cell ro1 (j := j) (by omega)
        have cf2 := row_frozen ro1 j
        have r2 := irow_set ro1 j (bits .xor .u8 (KS.getD j 0) 92)
        rw [s2] at r2
        have r1' : ((wr.setCell ⟨gi, j, none⟩ (.int .u8 (bits .xor .u8 (KS.getD j 0) 54))).setCell ⟨gi + 1, j, none⟩ (.int .u8 (bits .xor .u8 (KS.getD j 0) 92))).heap[gi]? = _ := heap_other r1 (by omega)
        have hc' : ∀ q, q < 32 → ∃ g_, some (⟨g, 0, none⟩ : Addr) = some ⟨g_, 0, none⟩ ∧ ((wr.setCell ⟨gi, j, none⟩ (.int .u8 (bits .xor .u8 (KS.getD j 0) 54))).setCell ⟨gi + 1, j, none⟩ (.int .u8 (bits .xor .u8 (KS.getD j 0) 92))).cell? ⟨g_, q, none⟩ = some (.int .u8 (KS.getD q 0)) := (by intro q hq; obtain ⟨g2, eg2, ck2⟩ := hc q hq; cases eg2; exact ⟨g, rfl, by rw [cell_other _ _ _ _ (by show g ≠ gi + 1; omega), cell_other _ _ _ _ (by show g ≠ gi; omega)]; exact ck2⟩)
        have hw' := (hw.setCell (show w.heap.size ≤ (⟨gi, j, none⟩ : Addr).block from (by show w.heap.size ≤ gi; omega)) (.int .u8 (bits .xor .u8 (KS.getD j 0) 54))).setCell (show w.heap.size ≤ (⟨gi + 1, j, none⟩ : Addr).block from (by show w.heap.size ≤ gi + 1; omega)) (.int .u8 (bits .xor .u8 (KS.getD j 0) 92))
        clear hw ri ro s1 s2 m1 m2 r1 ro1 hc
        generalize (mix (kin key) (zr 64) j).getD j 0 = y1 at *
        generalize (mix (kout key) (zr 64) j).getD j 0 = y2 at *
        generalize KS.getD j 0 = z at *
        go_wp2
        refine ⟨⟨j + 1, by omega, by go_num, r1', r2, hc', hw'⟩, ?_⟩
        simp [intOf]; omega
      · have hd2 : decide ((j : Int) < 32) = false := by simp; omega
        have e0 : KS.getD j 0 = 0 := by rw [List.getD_eq_getElem?_getD, List.getElem?_eq_none (by omega)]; rfl
        rw [e0] at s1 s2
        have c1 := irow_cell ri (j := j) (by omega)
        have cf1 := row_frozen ri j
        have r1 := irow_set ri j (bits .xor .u8 (0) 54)
        rw [s1] at r1
        have ro1 : (wr.setCell ⟨gi, j, none⟩ (.int .u8 (bits .xor .u8 (0) 54))).heap[gi + 1]? = _ := heap_other ro (by omega)
        have c2 := irow_cell ro1 (j := j) (by omega)
        have cf2 := row_frozen ro1 j
        have r2 := irow_set ro1 j (bits .xor .u8 (0) 92)
        rw [s2] at r2
        have r1' : ((wr.setCell ⟨gi, j, none⟩ (.int .u8 (bits .xor .u8 (0) 54))).setCell ⟨gi + 1, j, none⟩ (.int .u8 (bits .xor .u8 (0) 92))).heap[gi]? = _ := heap_other r1 (by omega)
        have hc' : ∀ q, q < 32 → ∃ g_, so = some ⟨g_, 0, none⟩ ∧ ((wr.setCell ⟨gi, j, none⟩ (.int .u8 (bits .xor .u8 (0) 54))).setCell ⟨gi + 1, j, none⟩ (.int .u8 (bits .xor .u8 (0) 92))).cell? ⟨g_, q, none⟩ = some (.int .u8 (KS.getD q 0)) := (by intro q hq; obtain ⟨g, eg, ck⟩ := hc q hq; have hgg : g < gi := so_.out g (by rw [eg]; rfl); exact ⟨g, eg, by rw [cell_other _ _ _ _ (by show g ≠ gi + 1; omega), cell_other _ _ _ _ (by show g ≠ gi; omega)]; exact ck⟩)
        have hw' := (hw.setCell (show w.heap.size ≤ (⟨gi, j, none⟩ : Addr).block from (by show w.heap.size ≤ gi; omega)) (.int .u8 (bits .xor .u8 (0) 54))).setCell (show w.heap.size ≤ (⟨gi + 1, j, none⟩ : Addr).block from (by show w.heap.size ≤ gi + 1; omega)) (.int .u8 (bits .xor .u8 (0) 92))
        clear hw ri ro s1 s2 m1 m2 r1 ro1 hc
        generalize (mix (kin key) (zr 64) j).getD j 0 = y1 at *
        generalize (mix (kout key) (zr 64) j).getD j 0 = y2 at *
        skip
        go_wp2
        refine ⟨⟨j + 1, by omega, by go_num, r1', r2, hc', hw'⟩, ?_⟩
        simp [intOf]; omega
    · obtain rfl : j = 64 := by omega
      have hd : decide ((64 : Int) < 64) = false := by decide
      have e1 : mix (kin key) (zr 64) 64 = (kin key) := mix_all _ (zr 64) (by omega)
      have e2 : mix (kout key) (zr 64) 64 = (kout key) := mix_all _ (zr 64) (by omega)
      rw [e1] at ri
      rw [e2] at ro
      clear hc e1 e2 hgi hgo
      have zI := kin_bd key
      have zO := kout_bd key
      have hba : Below wr.heap.size wr (wr.alloc (.cells #[.slice (some ⟨gi, 0, none⟩) 64 64, .slice ub bs.length ubc] 22)) := (Below.refl _ _).alloc (Nat.le_refl _) _
      have hPc := Pcs.two (hp1_0 wr (.cells #[.slice (some ⟨gi, 0, none⟩) 64 64, .slice ub bs.length ubc] 22)) (NB.of_row (keep hba ri) (by omega) zI 64 64 hil) ((hB.keep hw).nb.keep hba)
      replace ro := keep hba ro
      replace hw := Below.after hw hba
      clear hba
      go_wp2_with (fail)
      generalize wr.alloc (.cells #[.slice (some ⟨gi, 0, none⟩) 64 64, .slice ub bs.length ubc] 22) = x1 at *
      refine (l_joined [kin key, bs] _ _ hPc (by simp; omega)).mono ?_
      rintro e_ x2 ⟨vJ, rfl, oJ, hb⟩
      replace ro := keep hb ro
      replace hw := Below.after hw hb
      clear hb hPc ri
      rw [show [kin key, bs].flatten = kin key ++ bs by simp] at oJ
      have hHl := hm_len key bs
      have hIl := sumL_len (kin key ++ bs)
      have hIz := sumL_bd (kin key ++ bs)
      have cS := a_sum (kin key ++ bs) x2 vJ (hS.below hw) (hK.below hw) (Bys.of_own oJ (by rw [List.length_append]; omega) (both_bd zI zB)) (own_cap oJ) (by rw [List.length_append]; omega)
      have eH : hm key bs = sumL (kout key ++ sumL (kin key ++ bs)) := rfl
      have cM := fun (W : World) a c (h1 : BysM W (.slice uk key.length ukc) key) (h2 : BysM W (.slice ub bs.length ubc) bs) => a_macSum key bs W _ _ a c h1.1 qK (by omega) h2.1 qB (by omega)
      have cT := fun (W : World) (v : Value) a c h1 h2 => a_sum (kout key ++ sumL (kin key ++ bs)) W v a c h1 h2 (by rw [List.length_append]; omega)
      rw [← eH] at cT
      have zP := both_bd zO hIz
      have lP : (kout key ++ sumL (kin key ++ bs)).length ≤ 9223372036854775807 := by rw [List.length_append]; omega
      clear eH
      generalize sumL (kin key ++ bs) = I at *
      generalize hm key bs = H at *
      have heq := eqHm H hHl
      replace cM := hide cM
      replace cT := hide cT
      go_wp2_with (fail)
      refine cS.mono ?_
      rintro e_ x3 ⟨rfl, hb⟩
      replace ro := keep hb ro
      replace hw := Below.after hw hb
      clear hb cS oJ
      have rx := hp1_0 x3 (.cells (irow .u8 I) 25)
      have hba : Below x3.heap.size x3 (x3.alloc (.cells (irow .u8 I) 25)) := (Below.refl _ _).alloc (Nat.le_refl _) _
      replace ro := keep hba ro
      replace hw := Below.after hw hba
      clear hba
      have sk2 := slice_k
      go_wp2_with (first | (refine wpList_alloc rfl 25 rfl (irow .u8 (zr 32)) zkey ?_) | (refine wpList_store_row rfl 25 _ _ rfl (x3.heap.size) (irow .u8 I) rfl rfl 25 _ (hp1_0 x3 _) (infok8 _ hIl) (fit32 _ _ (zr_len 32) hIl) (irow_one _ _) ?_; rw [setRow_alloc_new _ _ _ _ _ _ rfl]) | fail)
      generalize x3.alloc (.cells (irow .u8 I) 25) = x4 at *
      generalize x3.heap.size = gx at *
      have f0 := hS.below hw
      have f4 := hK.below hw
      replace hKy := hKy.keep hw
      replace hB := hB.keep hw
      have hbd : Below x4.heap.size x4 x4.drew := below_drN (Below.refl _ _) 1
      replace ro := keep hbd ro
      replace rx := keep hbd rx
      replace hKy := hKy.keep hbd
      replace hB := hB.keep hbd
      replace f0 := f0.below hbd
      replace f4 := f4.below hbd
      replace hw := Below.after hw hbd
      clear hbd
      refine wp_region_noPanic ?_
      refine wp_region_any (by kernel_rfl) ?_
      change wpAny _ _ _ _ _ _ _ (World.drew _)
      generalize x4.drew = wd at *
      refine wpAny_take (i := 0) (v := ?v1) rfl (by kernel_rfl) (by kernel_rfl) (by kernel_rfl) (fun _ _ _ h => h) (Or.inl ⟨by rfl, ?y1⟩) ?r1
      case y1 =>
        intro w_
        go_simp
        try with_reducible rfl
      simp only [Act.put, List.getElem_toArray, List.getElem_cons_zero, List.setIfInBounds_toArray, List.set_cons_succ, List.set_cons_zero]
      refine wpAny_take (i := 1) (v := ?v2) rfl (by kernel_rfl) (by kernel_rfl) (by kernel_rfl) (fun _ _ _ h => h) (Or.inl ⟨by rfl, ?y2⟩) ?r2
      case y2 =>
        intro w_
        go_simp
        try with_reducible rfl
      simp only [Act.put, List.getElem_toArray, List.getElem_cons_succ, List.getElem_cons_zero, List.setIfInBounds_toArray, List.set_cons_succ, List.set_cons_zero]
      refine wpAny_take (i := 3) (v := ?v3) rfl (by kernel_rfl) (by kernel_rfl) (by kernel_rfl) (fun _ _ _ h => h) (Or.inl ⟨by rfl, ?y3⟩) ?r3
      case y3 =>
        intro w_
        go_simp
        try with_reducible rfl
      simp only [Act.put, List.getElem_toArray, List.getElem_cons_succ, List.getElem_cons_zero, List.setIfInBounds_toArray, List.set_cons_succ, List.set_cons_zero]
      refine wpAny_take (i := 4) (v := ?v4) rfl (by kernel_rfl) (by kernel_rfl) (by kernel_rfl) (fun _ _ _ h => h) (Or.inl ⟨by rfl, ?y4⟩) ?r4
      case y4 =>
        intro w_
        go_simp
        try with_reducible rfl
      simp only [Act.put, List.getElem_toArray, List.getElem_cons_succ, List.getElem_cons_zero, List.setIfInBounds_toArray, List.set_cons_succ, List.set_cons_zero]
      refine wpAny_ready (rs := [2, 5]) (fuel := 8) (by kernel_rfl) (by simp) (AllReady.cons rfl (fun K' hK => ?_) (AllReady.cons rfl (fun K' hK => ?_) AllReady.nil))
      · rw [if_pos (by kernel_rfl)]
        simp only [List.getElem_toArray, List.getElem_cons_succ, List.getElem_cons_zero]
        refine wp_call_ex (f := 10) (by kernel_rfl) (ex1 (cM.out wd f0 f4 hKy hB)) (fun v_ q1 hX_ => hK _ _ ?_)
        simp only [Act.put, List.setIfInBounds_toArray, List.set_cons_succ, List.set_cons_zero]
        clear hK
        obtain ⟨rfl, hb_⟩ := hX_
        replace ro := keep hb_ ro
        replace rx := keep hb_ rx
        replace hKy := hKy.keep hb_
        replace hB := hB.keep hb_
        replace f0 := f0.below hb_
        replace f4 := f4.below hb_
        replace hw := Below.after hw hb_
        clear hb_
        refine wpAny_ready (rs := [5]) (fuel := 7) (by kernel_rfl) (by simp) (AllReady.cons rfl (fun K' hK => ?_) AllReady.nil)
        rw [if_pos (by kernel_rfl)]
        simp only [List.getElem_toArray, List.getElem_cons_succ, List.getElem_cons_zero]
        refine wp_world_op (.slice (some ⟨q1.heap.size, 0, none⟩) 2 2) (q1.alloc (.cells #[.slice (some ⟨gi + 1, 0, none⟩) 64 64, .slice (some ⟨gx, 0, none⟩) 32 32] 22)) (by kernel_rfl) (hK _ _ ?_)
        simp only [Act.put, List.setIfInBounds_toArray, List.set_cons_succ, List.set_cons_zero]
        clear hK
        have hb_ : Below q1.heap.size q1 (q1.alloc (.cells #[.slice (some ⟨gi + 1, 0, none⟩) 64 64, .slice (some ⟨gx, 0, none⟩) 32 32] 22)) := (Below.refl _ _).alloc (Nat.le_refl _) _
        have rB := hp1_0 q1 (.cells #[.slice (some ⟨gi + 1, 0, none⟩) 64 64, .slice (some ⟨gx, 0, none⟩) 32 32] 22)
        replace ro := keep hb_ ro
        replace rx := keep hb_ rx
        replace hKy := hKy.keep hb_
        replace hB := hB.keep hb_
        replace f0 := f0.below hb_
        replace f4 := f4.below hb_
        replace hw := Below.after hw hb_
        clear hb_
        generalize q1.alloc (.cells #[.slice (some ⟨gi + 1, 0, none⟩) 64 64, .slice (some ⟨gx, 0, none⟩) 32 32] 22) = q2 at *
        generalize q1.heap.size = g3 at *
        refine wpAny_ready (rs := [6]) (fuel := 6) (by kernel_rfl) (by simp) (AllReady.cons rfl (fun K' hK => ?_) AllReady.nil)
        rw [if_pos (by kernel_rfl)]
        simp only [List.getElem_toArray, List.getElem_cons_succ, List.getElem_cons_zero]
        refine wp_call_ex (f := 8) (by kernel_rfl) (l_joined [kout key, I] q2 _ (Pcs.two rB (NB.of_row ro (by omega) zO 64 64 hol) (NB.of_row rx (by omega) hIz 32 32 hIl)) (by simp; omega)) (fun v_ q4 hX_ => hK _ _ ?_)
        simp only [Act.put, List.setIfInBounds_toArray, List.set_cons_succ, List.set_cons_zero]
        clear hK
        obtain ⟨oJ, hb_⟩ := hX_
        replace ro := keep hb_ ro
        replace rx := keep hb_ rx
        replace rB := keep hb_ rB
        replace hKy := hKy.keep hb_
        replace hB := hB.keep hb_
        replace f0 := f0.below hb_
        replace f4 := f4.below hb_
        replace hw := Below.after hw hb_
        replace oJ := oJ
        clear hb_
        rw [show [kout key, I].flatten = kout key ++ I by simp] at oJ
        refine wpAny_ready (rs := [7]) (fuel := 5) (by kernel_rfl) (by simp) (AllReady.cons rfl (fun K' hK => ?_) AllReady.nil)
        rw [if_pos (by kernel_rfl)]
        simp only [List.getElem_toArray, List.getElem_cons_succ, List.getElem_cons_zero]
        refine wp_call_ex (f := 9) (by kernel_rfl) (ex1 (cT.out q4 _ f0 f4 (Bys.of_own oJ lP zP) (own_cap oJ))) (fun v_ q5 hX_ => hK _ _ ?_)
        simp only [Act.put, List.setIfInBounds_toArray, List.set_cons_succ, List.set_cons_zero]
        clear hK
        obtain ⟨rfl, hb_⟩ := hX_
        replace ro := keep hb_ ro
        replace rx := keep hb_ rx
        replace rB := keep hb_ rB
        replace hKy := hKy.keep hb_
        replace hB := hB.keep hb_
        replace f0 := f0.below hb_
        replace f4 := f4.below hb_
        replace hw := Below.after hw hb_
        clear hb_
        refine wpAny_take (i := 8) (v := ?v5) rfl (by kernel_rfl) (by kernel_rfl) (by kernel_rfl) (fun _ _ _ h => h) (Or.inl ⟨by rfl, ?y5⟩) ?r5
        case y5 =>
          intro w_
          go_simp
          try with_reducible rfl
        simp only [Act.put, List.getElem_toArray, List.getElem_cons_succ, List.getElem_cons_zero, List.setIfInBounds_toArray, List.set_cons_succ, List.set_cons_zero]
        refine wpAny_take (i := 9) (v := ?v6) rfl (by kernel_rfl) (by kernel_rfl) (by kernel_rfl) (fun _ _ _ h => h) (Or.inl ⟨by rfl, ?y6⟩) ?r6
        case y6 =>
          intro w_
          go_simp
          try with_reducible rfl
        simp only [Act.put, List.getElem_toArray, List.getElem_cons_succ, List.getElem_cons_zero, List.setIfInBounds_toArray, List.set_cons_succ, List.set_cons_zero]
        refine wpAny_ready (rs := [10]) (fuel := 2) (by kernel_rfl) (by simp) (AllReady.cons rfl (fun K' hK => ?_) AllReady.nil)
        rw [if_pos (by kernel_rfl)]
        simp only [List.getElem_toArray, List.getElem_cons_succ, List.getElem_cons_zero]
        refine wp_call_ex (f := 11) (by kernel_rfl) (ex1 (vec_any q5 f0 f4)) (fun v_ q6 hX_ => hK _ _ ?_)
        simp only [Act.put, List.setIfInBounds_toArray, List.set_cons_succ, List.set_cons_zero]
        clear hK
        obtain ⟨rfl, hb_⟩ := hX_
        replace ro := keep hb_ ro
        replace rx := keep hb_ rx
        replace rB := keep hb_ rB
        replace hKy := hKy.keep hb_
        replace hB := hB.keep hb_
        replace f0 := f0.below hb_
        replace f4 := f4.below hb_
        replace hw := Below.after hw hb_
        clear hb_
        refine wpAny_take (i := 11) (v := ?v7) rfl (by kernel_rfl) (by kernel_rfl) (by kernel_rfl) (fun _ _ _ h => h) (Or.inl ⟨by rfl, ?y7⟩) ?r7
        case y7 =>
          intro w_
          go_simp
          try with_reducible rfl
        simp only [Act.put, List.getElem_toArray, List.getElem_cons_succ, List.getElem_cons_zero, List.setIfInBounds_toArray, List.set_cons_succ, List.set_cons_zero]
        refine wpAny_take (i := 12) (v := ?v8) rfl (by kernel_rfl) (by kernel_rfl) (by kernel_rfl) (fun _ _ _ h => h) (Or.inl ⟨by rfl, ?y8⟩) ?r8
        case y8 =>
          intro w_
          go_simp
          try with_reducible rfl
        simp only [Act.put, List.getElem_toArray, List.getElem_cons_succ, List.getElem_cons_zero, List.setIfInBounds_toArray, List.set_cons_succ, List.set_cons_zero]
        refine wpAny_done (by kernel_rfl) ?_ _
        refine NoPanic.normal ?_
        go_wp2
        go_ret
        exact ⟨rfl, hw⟩
      · rw [if_pos (by kernel_rfl)]
        simp only [List.getElem_toArray, List.getElem_cons_succ, List.getElem_cons_zero]
        refine wp_world_op (.slice (some ⟨wd.heap.size, 0, none⟩) 2 2) (wd.alloc (.cells #[.slice (some ⟨gi + 1, 0, none⟩) 64 64, .slice (some ⟨gx, 0, none⟩) 32 32] 22)) (by kernel_rfl) (hK _ _ ?_)
        simp only [Act.put, List.setIfInBounds_toArray, List.set_cons_succ, List.set_cons_zero]
        clear hK
        have hb_ : Below wd.heap.size wd (wd.alloc (.cells #[.slice (some ⟨gi + 1, 0, none⟩) 64 64, .slice (some ⟨gx, 0, none⟩) 32 32] 22)) := (Below.refl _ _).alloc (Nat.le_refl _) _
        have rB := hp1_0 wd (.cells #[.slice (some ⟨gi + 1, 0, none⟩) 64 64, .slice (some ⟨gx, 0, none⟩) 32 32] 22)
        replace ro := keep hb_ ro
        replace rx := keep hb_ rx
        replace hKy := hKy.keep hb_
        replace hB := hB.keep hb_
        replace f0 := f0.below hb_
        replace f4 := f4.below hb_
        replace hw := Below.after hw hb_
        clear hb_
        generalize wd.alloc (.cells #[.slice (some ⟨gi + 1, 0, none⟩) 64 64, .slice (some ⟨gx, 0, none⟩) 32 32] 22) = q7 at *
        generalize wd.heap.size = g8 at *
        refine wpAny_ready (rs := [2]) (fuel := 7) (by kernel_rfl) (by simp) (AllReady.cons rfl (fun K' hK => ?_) AllReady.nil)
        rw [if_pos (by kernel_rfl)]
        simp only [List.getElem_toArray, List.getElem_cons_succ, List.getElem_cons_zero]
        refine wp_call_ex (f := 10) (by kernel_rfl) (ex1 (cM.out q7 f0 f4 hKy hB)) (fun v_ q9 hX_ => hK _ _ ?_)
        simp only [Act.put, List.setIfInBounds_toArray, List.set_cons_succ, List.set_cons_zero]
        clear hK
        obtain ⟨rfl, hb_⟩ := hX_
        replace ro := keep hb_ ro
        replace rx := keep hb_ rx
        replace rB := keep hb_ rB
        replace hKy := hKy.keep hb_
        replace hB := hB.keep hb_
        replace f0 := f0.below hb_
        replace f4 := f4.below hb_
        replace hw := Below.after hw hb_
        clear hb_
        refine wpAny_ready (rs := [6]) (fuel := 6) (by kernel_rfl) (by simp) (AllReady.cons rfl (fun K' hK => ?_) AllReady.nil)
        rw [if_pos (by kernel_rfl)]
        simp only [List.getElem_toArray, List.getElem_cons_succ, List.getElem_cons_zero]
        refine wp_call_ex (f := 8) (by kernel_rfl) (l_joined [kout key, I] q9 _ (Pcs.two rB (NB.of_row ro (by omega) zO 64 64 hol) (NB.of_row rx (by omega) hIz 32 32 hIl)) (by simp; omega)) (fun v_ q10 hX_ => hK _ _ ?_)
        simp only [Act.put, List.setIfInBounds_toArray, List.set_cons_succ, List.set_cons_zero]
        clear hK
        obtain ⟨oJ, hb_⟩ := hX_
        replace ro := keep hb_ ro
        replace rx := keep hb_ rx
        replace rB := keep hb_ rB
        replace hKy := hKy.keep hb_
        replace hB := hB.keep hb_
        replace f0 := f0.below hb_
        replace f4 := f4.below hb_
        replace hw := Below.after hw hb_
        replace oJ := oJ
        clear hb_
        rw [show [kout key, I].flatten = kout key ++ I by simp] at oJ
        refine wpAny_ready (rs := [7]) (fuel := 5) (by kernel_rfl) (by simp) (AllReady.cons rfl (fun K' hK => ?_) AllReady.nil)
        rw [if_pos (by kernel_rfl)]
        simp only [List.getElem_toArray, List.getElem_cons_succ, List.getElem_cons_zero]
        refine wp_call_ex (f := 9) (by kernel_rfl) (ex1 (cT.out q10 _ f0 f4 (Bys.of_own oJ lP zP) (own_cap oJ))) (fun v_ q11 hX_ => hK _ _ ?_)
        simp only [Act.put, List.setIfInBounds_toArray, List.set_cons_succ, List.set_cons_zero]
        clear hK
        obtain ⟨rfl, hb_⟩ := hX_
        replace ro := keep hb_ ro
        replace rx := keep hb_ rx
        replace rB := keep hb_ rB
        replace hKy := hKy.keep hb_
        replace hB := hB.keep hb_
        replace f0 := f0.below hb_
        replace f4 := f4.below hb_
        replace hw := Below.after hw hb_
        clear hb_
        refine wpAny_take (i := 8) (v := ?v9) rfl (by kernel_rfl) (by kernel_rfl) (by kernel_rfl) (fun _ _ _ h => h) (Or.inl ⟨by rfl, ?y9⟩) ?r9
        case y9 =>
          intro w_
          go_simp
          try with_reducible rfl
        simp only [Act.put, List.getElem_toArray, List.getElem_cons_succ, List.getElem_cons_zero, List.setIfInBounds_toArray, List.set_cons_succ, List.set_cons_zero]
        refine wpAny_take (i := 9) (v := ?v10) rfl (by kernel_rfl) (by kernel_rfl) (by kernel_rfl) (fun _ _ _ h => h) (Or.inl ⟨by rfl, ?y10⟩) ?r10
        case y10 =>
          intro w_
          go_simp
          try with_reducible rfl
        simp only [Act.put, List.getElem_toArray, List.getElem_cons_succ, List.getElem_cons_zero, List.setIfInBounds_toArray, List.set_cons_succ, List.set_cons_zero]
        refine wpAny_ready (rs := [10]) (fuel := 2) (by kernel_rfl) (by simp) (AllReady.cons rfl (fun K' hK => ?_) AllReady.nil)
        rw [if_pos (by kernel_rfl)]
        simp only [List.getElem_toArray, List.getElem_cons_succ, List.getElem_cons_zero]
        refine wp_call_ex (f := 11) (by kernel_rfl) (ex1 (vec_any q11 f0 f4)) (fun v_ q12 hX_ => hK _ _ ?_)
        simp only [Act.put, List.setIfInBounds_toArray, List.set_cons_succ, List.set_cons_zero]
        clear hK
        obtain ⟨rfl, hb_⟩ := hX_
        replace ro := keep hb_ ro
        replace rx := keep hb_ rx
        replace rB := keep hb_ rB
        replace hKy := hKy.keep hb_
        replace hB := hB.keep hb_
        replace f0 := f0.below hb_
        replace f4 := f4.below hb_
        replace hw := Below.after hw hb_
        clear hb_
        refine wpAny_take (i := 11) (v := ?v11) rfl (by kernel_rfl) (by kernel_rfl) (by kernel_rfl) (fun _ _ _ h => h) (Or.inl ⟨by rfl, ?y11⟩) ?r11
        case y11 =>
          intro w_
          go_simp
          try with_reducible rfl
        simp only [Act.put, List.getElem_toArray, List.getElem_cons_succ, List.getElem_cons_zero, List.setIfInBounds_toArray, List.set_cons_succ, List.set_cons_zero]
        refine wpAny_take (i := 12) (v := ?v12) rfl (by kernel_rfl) (by kernel_rfl) (by kernel_rfl) (fun _ _ _ h => h) (Or.inl ⟨by rfl, ?y12⟩) ?r12
        case y12 =>
          intro w_
          go_simp
          try with_reducible rfl
        simp only [Act.put, List.getElem_toArray, List.getElem_cons_succ, List.getElem_cons_zero, List.setIfInBounds_toArray, List.set_cons_succ, List.set_cons_zero]
        refine wpAny_done (by kernel_rfl) ?_ _
        refine NoPanic.normal ?_
        go_wp2
        go_ret
        exact ⟨rfl, hw⟩
set_option maxRecDepth 100000 in
set_option maxHeartbeats 8000000 in
theorem isHashes_S (key bs : List Int) (w : World) (vk vb : Value) (hS : Sta w) (hK : Kon w) (hKy : BysN w vk key) (qK : ∀ a l c, vk = .slice a l c → l ≤ c) (hB : BysN w vb bs) (qB : ∀ a l c, vb = .slice a l c → l ≤ c) (hl : ¬ 64 < key.length) : Calls Tryd.prog 3 #[vk, vb] w fun e w' => e = .returned (.bool true) ∧ Below w.heap.size w w' := by
  have lK : key.length ≤ 140737488351232 := hKy.2.1
  have lB : bs.length ≤ 140737488351232 := hB.2.1
  have zK := bys_bd hKy.1
  have zB := bys_bd hB.1
  replace hKy := hKy.toM
  replace hB := hB.toM
  have hw := Below.refl w.heap.size w
  obtain ⟨uk, ukc, rfl, _⟩ := id hKy.1
  obtain ⟨ub, ubc, rfl, _⟩ := id hB.1
  have hks : ksh key = key := by rw [ksh, if_neg hl]
  go_enter Tryd.func3, Tryd.ntmps3
  replace hks := hide hks
  go_wp2_with (fail)
  have hp_ := hp1_0 w (.cells #[.slice uk key.length ukc] 22)
  skip
  refine (l_joined [key] _ _ (Pcs.one hp_ ((hKy.nb).keep ((Below.refl _ _).alloc (Nat.le_refl _) _))) (by simp; omega)).mono ?_
  rintro e_ w1 ⟨voK, rfl, oK, hb⟩
  replace hb := Below.after ((Below.refl w.heap.size w).alloc (Nat.le_refl _) _) hb
  replace oK : w1.ownsRow w.heap.size 5 1 voK _ _ := own_lower oK (by rw [size_alloc1]; omega)
  rw [show [key].flatten = key by simp] at oK
  clear hp_
  replace hw := Below.after hw hb
  clear hb
  obtain ⟨ko, kc, rfl⟩ := slen_own oK
  have hd : decide ((64 : Int) < (key.length : Int)) = false := decide_eq_false (by omega)
  have hN64 : key.length ≤ 64 := by omega
  have hsZ := hw.size
  have hmk1 : (Instr.makeSlice 22 (.int .i64 64) (.int .i64 64)).run Tryd.prog w1 = .ok (.slice (some ⟨w1.heap.size, 0, none⟩) 64 64) (w1.alloc (.cells (irow .u8 (zr 64)) 5)) := make_i64 64 (by decide) w1
  have hmk2 : (Instr.makeSlice 22 (.int .i64 64) (.int .i64 64)).run Tryd.prog (w1.alloc (.cells (irow .u8 (zr 64)) 5)) = .ok (.slice (some ⟨w1.heap.size + 1, 0, none⟩) 64 64) ((w1.alloc (.cells (irow .u8 (zr 64)) 5)).alloc (.cells (irow .u8 (zr 64)) 5)) := by
    have h := make_i64 64 (by decide) (w1.alloc (.cells (irow .u8 (zr 64)) 5))
    rw [size_alloc1] at h
    exact h
  have hb2 : Below w1.heap.size w1 ((w1.alloc (.cells (irow .u8 (zr 64)) 5)).alloc (.cells (irow .u8 (zr 64)) 5)) := bel2 w1 _ _
  have ri : ((w1.alloc (.cells (irow .u8 (zr 64)) 5)).alloc (.cells (irow .u8 (zr 64)) 5)).heap[w1.heap.size]? = some (.cells (irow .u8 (mix (kin key) (zr 64) 0)) 5 (0, 0)) := by rw [mix_zero]; exact hp2_0 w1 _ _
  have ro : ((w1.alloc (.cells (irow .u8 (zr 64)) 5)).alloc (.cells (irow .u8 (zr 64)) 5)).heap[w1.heap.size + 1]? = some (.cells (irow .u8 (mix (kout key) (zr 64) 0)) 5 (0, 0)) := by rw [mix_zero]; exact hp2_1 w1 _ _
  have so_ : ∀ g, (Value.slice ko key.length kc).ownBlock = some g → g < w1.heap.size := fun g h => (oK.lt g h).2
  replace so_ := hide so_
  replace oK := own_keep oK hb2
  replace hw := Below.after hw hb2
  have hsW := hb2.size
  have hsw := hw.size
  clear hb2
  go_wp2
  clear hmk1 hmk2
  generalize ((w1.alloc (.cells (irow .u8 (zr 64)) 5)).alloc (.cells (irow .u8 (zr 64)) 5)) = w5 at *
  generalize w1.heap.size = gi at *
  have hil := kin_len key
  have hol := kout_len key
  have hz64 := zr_len 64
  have hgi : ∀ j, j < 64 → (kin key).getD j 0 = bits .xor .u8 (key.getD j 0) 54 := fun j hj => by
    rw [kin, xl_get _ _ _ (by rw [kb64_len]; exact hj), kb64_get, hks.out]
  have hgo : ∀ j, j < 64 → (kout key).getD j 0 = bits .xor .u8 (key.getD j 0) 92 := fun j hj => by
    rw [kout, xl_get _ _ _ (by rw [kb64_len]; exact hj), kb64_get, hks.out]
  replace hgi := hide hgi
  replace hgo := hide hgo
  go_loopw [9] (fun i wr => ∃ j : Nat, j ≤ 64 ∧ i = .int .i64 j ∧ wr.heap[gi]? = some (.cells (irow .u8 (mix (kin key) (zr 64) j)) 5 (0, 0)) ∧ wr.heap[gi + 1]? = some (.cells (irow .u8 (mix (kout key) (zr 64) j)) 5 (0, 0)) ∧ (∀ j, j < key.length → ∃ g, ko = some ⟨g, 0, none⟩ ∧ wr.cell? ⟨g, j, none⟩ = some (.int .u8 (key.getD j 0))) ∧ Below w.heap.size w wr) (fun i _ => 64 - (intOf i).toNat)
  case atStart =>
    refine ⟨0, by omega, rfl, ri, ro, fun j hj => ?_, hw⟩
    obtain ⟨g, cap, e, _, _, hc, _⟩ := own_at oK hj
    cases e
    exact ⟨g, rfl, hc⟩
  case round =>
    clear ri ro hw
    obtain ⟨j, hj, rfl, ri, ro, hc, hw⟩ := hrel
    by_cases hlt : j < 64
    · have hd : decide ((j : Int) < 64) = true := by simp; omega
      have s1 := mix_set (kin key) (zr 64) j (by omega) (by omega)
      have s2 := mix_set (kout key) (zr 64) j (by omega) (by omega)
      have m1 := mix_length (kin key) (zr 64) j (by omega) (by omega)
      have m2 := mix_length (kout key) (zr 64) j (by omega) (by omega)
      rw [hgi.out j hlt] at s1
      rw [hgo.out j hlt] at s2
      by_cases hin : j < key.length
      · have hd2 : decide ((j : Int) < (key.length : Int)) = true := by simp; omega
        obtain ⟨g, eg, ck⟩ := hc j hin
        subst eg
        have hgg : g < gi := so_.out g rfl
        have c1 := irow_cell ri (j := j) (by omega)
        have cf1 := row_frozen ri j
        have r1 := irow_set ri j (bits .xor .u8 (key.getD j 0) 54)
        rw [s1] at r1
        have ro1 : (wr.setCell ⟨gi, j, none⟩ (.int .u8 (bits .xor .u8 (key.getD j 0) 54))).heap[gi + 1]? = _ := heap_other ro (by omega)
        have c2 := irow_cell ro1 (j := j) (by omega)
        have cf2 := row_frozen ro1 j
        have r2 := irow_set ro1 j (bits .xor .u8 (key.getD j 0) 92)
        rw [s2] at r2
        have r1' : ((wr.setCell ⟨gi, j, none⟩ (.int .u8 (bits .xor .u8 (key.getD j 0) 54))).setCell ⟨gi + 1, j, none⟩ (.int .u8 (bits .xor .u8 (key.getD j 0) 92))).heap[gi]? = _ := heap_other r1 (by omega)
        have hc' : ∀ q, q < key.length → ∃ g_, some (⟨g, 0, none⟩ : Addr) = some ⟨g_, 0, none⟩ ∧ ((wr.setCell ⟨gi, j, none⟩ (.int .u8 (bits .xor .u8 (key.getD j 0) 54))).setCell ⟨gi + 1, j, none⟩ (.int .u8 (bits .xor .u8 (key.getD j 0) 92))).cell? ⟨g_, q, none⟩ = some (.int .u8 (key.getD q 0)) := (by intro q hq; obtain ⟨g2, eg2, ck2⟩ := hc q hq; cases eg2; exact ⟨g, rfl, by rw [cell_other _ _ _ _ (by show g ≠ gi + 1; omega), cell_other _ _ _ _ (by show g ≠ gi; omega)]; exact ck2⟩)
        have hw' := (hw.setCell (show w.heap.size ≤ (⟨gi, j, none⟩ : Addr).block from (by show w.heap.size ≤ gi; omega)) (.int .u8 (bits .xor .u8 (key.getD j 0) 54))).setCell (show w.heap.size ≤ (⟨gi + 1, j, none⟩ : Addr).block from (by show w.heap.size ≤ gi + 1; omega)) (.int .u8 (bits .xor .u8 (key.getD j 0) 92))
        clear hw ri ro s1 s2 m1 m2 r1 ro1 hc
        generalize (mix (kin key) (zr 64) j).getD j 0 = y1 at *
        generalize (mix (kout key) (zr 64) j).getD j 0 = y2 at *
        generalize key.getD j 0 = z at *
        go_wp2
        refine ⟨⟨j + 1, by omega, by go_num, r1', r2, hc', hw'⟩, ?_⟩
        simp [intOf]; omega
      · have hd2 : decide ((j : Int) < (key.length : Int)) = false := by simp; omega
        have e0 : key.getD j 0 = 0 := by rw [List.getD_eq_getElem?_getD, List.getElem?_eq_none (by omega)]; rfl
        rw [e0] at s1 s2
        have c1 := irow_cell ri (j := j) (by omega)
        have cf1 := row_frozen ri j
        have r1 := irow_set ri j (bits .xor .u8 (0) 54)
        rw [s1] at r1
        have ro1 : (wr.setCell ⟨gi, j, none⟩ (.int .u8 (bits .xor .u8 (0) 54))).heap[gi + 1]? = _ := heap_other ro (by omega)
        have c2 := irow_cell ro1 (j := j) (by omega)
        have cf2 := row_frozen ro1 j
        have r2 := irow_set ro1 j (bits .xor .u8 (0) 92)
        rw [s2] at r2
        have r1' : ((wr.setCell ⟨gi, j, none⟩ (.int .u8 (bits .xor .u8 (0) 54))).setCell ⟨gi + 1, j, none⟩ (.int .u8 (bits .xor .u8 (0) 92))).heap[gi]? = _ := heap_other r1 (by omega)
        have hc' : ∀ q, q < key.length → ∃ g_, ko = some ⟨g_, 0, none⟩ ∧ ((wr.setCell ⟨gi, j, none⟩ (.int .u8 (bits .xor .u8 (0) 54))).setCell ⟨gi + 1, j, none⟩ (.int .u8 (bits .xor .u8 (0) 92))).cell? ⟨g_, q, none⟩ = some (.int .u8 (key.getD q 0)) := (by intro q hq; obtain ⟨g, eg, ck⟩ := hc q hq; have hgg : g < gi := so_.out g (by rw [eg]; rfl); exact ⟨g, eg, by rw [cell_other _ _ _ _ (by show g ≠ gi + 1; omega), cell_other _ _ _ _ (by show g ≠ gi; omega)]; exact ck⟩)
        have hw' := (hw.setCell (show w.heap.size ≤ (⟨gi, j, none⟩ : Addr).block from (by show w.heap.size ≤ gi; omega)) (.int .u8 (bits .xor .u8 (0) 54))).setCell (show w.heap.size ≤ (⟨gi + 1, j, none⟩ : Addr).block from (by show w.heap.size ≤ gi + 1; omega)) (.int .u8 (bits .xor .u8 (0) 92))
        clear hw ri ro s1 s2 m1 m2 r1 ro1 hc
        generalize (mix (kin key) (zr 64) j).getD j 0 = y1 at *
        generalize (mix (kout key) (zr 64) j).getD j 0 = y2 at *
        skip
        go_wp2
        refine ⟨⟨j + 1, by omega, by go_num, r1', r2, hc', hw'⟩, ?_⟩
        simp [intOf]; omega
    · obtain rfl : j = 64 := by omega
      have hd : decide ((64 : Int) < 64) = false := by decide
      have e1 : mix (kin key) (zr 64) 64 = (kin key) := mix_all _ (zr 64) (by omega)
      have e2 : mix (kout key) (zr 64) 64 = (kout key) := mix_all _ (zr 64) (by omega)
      rw [e1] at ri
      rw [e2] at ro
      clear hc e1 e2 hgi hgo
      have zI := kin_bd key
      have zO := kout_bd key
      have hba : Below wr.heap.size wr (wr.alloc (.cells #[.slice (some ⟨gi, 0, none⟩) 64 64, .slice ub bs.length ubc] 22)) := (Below.refl _ _).alloc (Nat.le_refl _) _
      have hPc := Pcs.two (hp1_0 wr (.cells #[.slice (some ⟨gi, 0, none⟩) 64 64, .slice ub bs.length ubc] 22)) (NB.of_row (keep hba ri) (by omega) zI 64 64 hil) ((hB.keep hw).nb.keep hba)
      replace ro := keep hba ro
      replace hw := Below.after hw hba
      clear hba
      go_wp2_with (fail)
      generalize wr.alloc (.cells #[.slice (some ⟨gi, 0, none⟩) 64 64, .slice ub bs.length ubc] 22) = x1 at *
      refine (l_joined [kin key, bs] _ _ hPc (by simp; omega)).mono ?_
      rintro e_ x2 ⟨vJ, rfl, oJ, hb⟩
      replace ro := keep hb ro
      replace hw := Below.after hw hb
      clear hb hPc ri
      rw [show [kin key, bs].flatten = kin key ++ bs by simp] at oJ
      have hHl := hm_len key bs
      have hIl := sumL_len (kin key ++ bs)
      have hIz := sumL_bd (kin key ++ bs)
      have cS := a_sum (kin key ++ bs) x2 vJ (hS.below hw) (hK.below hw) (Bys.of_own oJ (by rw [List.length_append]; omega) (both_bd zI zB)) (own_cap oJ) (by rw [List.length_append]; omega)
      have eH : hm key bs = sumL (kout key ++ sumL (kin key ++ bs)) := rfl
      have cM := fun (W : World) a c (h1 : BysM W (.slice uk key.length ukc) key) (h2 : BysM W (.slice ub bs.length ubc) bs) => a_macSum key bs W _ _ a c h1.1 qK (by omega) h2.1 qB (by omega)
      have cT := fun (W : World) (v : Value) a c h1 h2 => a_sum (kout key ++ sumL (kin key ++ bs)) W v a c h1 h2 (by rw [List.length_append]; omega)
      rw [← eH] at cT
      have zP := both_bd zO hIz
      have lP : (kout key ++ sumL (kin key ++ bs)).length ≤ 9223372036854775807 := by rw [List.length_append]; omega
      clear eH
      generalize sumL (kin key ++ bs) = I at *
      generalize hm key bs = H at *
      have heq := eqHm H hHl
      replace cM := hide cM
      replace cT := hide cT
      go_wp2_with (fail)
      refine cS.mono ?_
      rintro e_ x3 ⟨rfl, hb⟩
      replace ro := keep hb ro
      replace hw := Below.after hw hb
      clear hb cS oJ
      have rx := hp1_0 x3 (.cells (irow .u8 I) 25)
      have hba : Below x3.heap.size x3 (x3.alloc (.cells (irow .u8 I) 25)) := (Below.refl _ _).alloc (Nat.le_refl _) _
      replace ro := keep hba ro
      replace hw := Below.after hw hba
      clear hba
      have sk2 := slice_k
      go_wp2_with (first | (refine wpList_alloc rfl 25 rfl (irow .u8 (zr 32)) zkey ?_) | (refine wpList_store_row rfl 25 _ _ rfl (x3.heap.size) (irow .u8 I) rfl rfl 25 _ (hp1_0 x3 _) (infok8 _ hIl) (fit32 _ _ (zr_len 32) hIl) (irow_one _ _) ?_; rw [setRow_alloc_new _ _ _ _ _ _ rfl]) | fail)
      generalize x3.alloc (.cells (irow .u8 I) 25) = x4 at *
      generalize x3.heap.size = gx at *
      have f0 := hS.below hw
      have f4 := hK.below hw
      replace hKy := hKy.keep hw
      replace hB := hB.keep hw
      have hbd : Below x4.heap.size x4 x4.drew := below_drN (Below.refl _ _) 1
      replace ro := keep hbd ro
      replace rx := keep hbd rx
      replace hKy := hKy.keep hbd
      replace hB := hB.keep hbd
      replace f0 := f0.below hbd
      replace f4 := f4.below hbd
      replace hw := Below.after hw hbd
      clear hbd
      refine wp_region_noPanic ?_
      refine wp_region_any (by kernel_rfl) ?_
      change wpAny _ _ _ _ _ _ _ (World.drew _)
      generalize x4.drew = wd at *
      refine wpAny_take (i := 0) (v := ?v1) rfl (by kernel_rfl) (by kernel_rfl) (by kernel_rfl) (fun _ _ _ h => h) (Or.inl ⟨by rfl, ?y1⟩) ?r1
      case y1 =>
        intro w_
        go_simp
        try with_reducible rfl
      simp only [Act.put, List.getElem_toArray, List.getElem_cons_zero, List.setIfInBounds_toArray, List.set_cons_succ, List.set_cons_zero]
      refine wpAny_take (i := 1) (v := ?v2) rfl (by kernel_rfl) (by kernel_rfl) (by kernel_rfl) (fun _ _ _ h => h) (Or.inl ⟨by rfl, ?y2⟩) ?r2
      case y2 =>
        intro w_
        go_simp
        try with_reducible rfl
      simp only [Act.put, List.getElem_toArray, List.getElem_cons_succ, List.getElem_cons_zero, List.setIfInBounds_toArray, List.set_cons_succ, List.set_cons_zero]
      refine wpAny_take (i := 3) (v := ?v3) rfl (by kernel_rfl) (by kernel_rfl) (by kernel_rfl) (fun _ _ _ h => h) (Or.inl ⟨by rfl, ?y3⟩) ?r3
      case y3 =>
        intro w_
        go_simp
        try with_reducible rfl
      simp only [Act.put, List.getElem_toArray, List.getElem_cons_succ, List.getElem_cons_zero, List.setIfInBounds_toArray, List.set_cons_succ, List.set_cons_zero]
      refine wpAny_take (i := 4) (v := ?v4) rfl (by kernel_rfl) (by kernel_rfl) (by kernel_rfl) (fun _ _ _ h => h) (Or.inl ⟨by rfl, ?y4⟩) ?r4
      case y4 =>
        intro w_
        go_simp
        try with_reducible rfl
      simp only [Act.put, List.getElem_toArray, List.getElem_cons_succ, List.getElem_cons_zero, List.setIfInBounds_toArray, List.set_cons_succ, List.set_cons_zero]
      refine wpAny_ready (rs := [2, 5]) (fuel := 8) (by kernel_rfl) (by simp) (AllReady.cons rfl (fun K' hK => ?_) (AllReady.cons rfl (fun K' hK => ?_) AllReady.nil))
      · rw [if_pos (by kernel_rfl)]
        simp only [List.getElem_toArray, List.getElem_cons_succ, List.getElem_cons_zero]
        refine wp_call_ex (f := 10) (by kernel_rfl) (ex1 (cM.out wd f0 f4 hKy hB)) (fun v_ q1 hX_ => hK _ _ ?_)
        simp only [Act.put, List.setIfInBounds_toArray, List.set_cons_succ, List.set_cons_zero]
        clear hK
        obtain ⟨rfl, hb_⟩ := hX_
        replace ro := keep hb_ ro
        replace rx := keep hb_ rx
        replace hKy := hKy.keep hb_
        replace hB := hB.keep hb_
        replace f0 := f0.below hb_
        replace f4 := f4.below hb_
        replace hw := Below.after hw hb_
        clear hb_
        refine wpAny_ready (rs := [5]) (fuel := 7) (by kernel_rfl) (by simp) (AllReady.cons rfl (fun K' hK => ?_) AllReady.nil)
        rw [if_pos (by kernel_rfl)]
        simp only [List.getElem_toArray, List.getElem_cons_succ, List.getElem_cons_zero]
        refine wp_world_op (.slice (some ⟨q1.heap.size, 0, none⟩) 2 2) (q1.alloc (.cells #[.slice (some ⟨gi + 1, 0, none⟩) 64 64, .slice (some ⟨gx, 0, none⟩) 32 32] 22)) (by kernel_rfl) (hK _ _ ?_)
        simp only [Act.put, List.setIfInBounds_toArray, List.set_cons_succ, List.set_cons_zero]
        clear hK
        have hb_ : Below q1.heap.size q1 (q1.alloc (.cells #[.slice (some ⟨gi + 1, 0, none⟩) 64 64, .slice (some ⟨gx, 0, none⟩) 32 32] 22)) := (Below.refl _ _).alloc (Nat.le_refl _) _
        have rB := hp1_0 q1 (.cells #[.slice (some ⟨gi + 1, 0, none⟩) 64 64, .slice (some ⟨gx, 0, none⟩) 32 32] 22)
        replace ro := keep hb_ ro
        replace rx := keep hb_ rx
        replace hKy := hKy.keep hb_
        replace hB := hB.keep hb_
        replace f0 := f0.below hb_
        replace f4 := f4.below hb_
        replace hw := Below.after hw hb_
        clear hb_
        generalize q1.alloc (.cells #[.slice (some ⟨gi + 1, 0, none⟩) 64 64, .slice (some ⟨gx, 0, none⟩) 32 32] 22) = q2 at *
        generalize q1.heap.size = g3 at *
        refine wpAny_ready (rs := [6]) (fuel := 6) (by kernel_rfl) (by simp) (AllReady.cons rfl (fun K' hK => ?_) AllReady.nil)
        rw [if_pos (by kernel_rfl)]
        simp only [List.getElem_toArray, List.getElem_cons_succ, List.getElem_cons_zero]
        refine wp_call_ex (f := 8) (by kernel_rfl) (l_joined [kout key, I] q2 _ (Pcs.two rB (NB.of_row ro (by omega) zO 64 64 hol) (NB.of_row rx (by omega) hIz 32 32 hIl)) (by simp; omega)) (fun v_ q4 hX_ => hK _ _ ?_)
        simp only [Act.put, List.setIfInBounds_toArray, List.set_cons_succ, List.set_cons_zero]
        clear hK
        obtain ⟨oJ, hb_⟩ := hX_
        replace ro := keep hb_ ro
        replace rx := keep hb_ rx
        replace rB := keep hb_ rB
        replace hKy := hKy.keep hb_
        replace hB := hB.keep hb_
        replace f0 := f0.below hb_
        replace f4 := f4.below hb_
        replace hw := Below.after hw hb_
        replace oJ := oJ
        clear hb_
        rw [show [kout key, I].flatten = kout key ++ I by simp] at oJ
        refine wpAny_ready (rs := [7]) (fuel := 5) (by kernel_rfl) (by simp) (AllReady.cons rfl (fun K' hK => ?_) AllReady.nil)
        rw [if_pos (by kernel_rfl)]
        simp only [List.getElem_toArray, List.getElem_cons_succ, List.getElem_cons_zero]
        refine wp_call_ex (f := 9) (by kernel_rfl) (ex1 (cT.out q4 _ f0 f4 (Bys.of_own oJ lP zP) (own_cap oJ))) (fun v_ q5 hX_ => hK _ _ ?_)
        simp only [Act.put, List.setIfInBounds_toArray, List.set_cons_succ, List.set_cons_zero]
        clear hK
        obtain ⟨rfl, hb_⟩ := hX_
        replace ro := keep hb_ ro
        replace rx := keep hb_ rx
        replace rB := keep hb_ rB
        replace hKy := hKy.keep hb_
        replace hB := hB.keep hb_
        replace f0 := f0.below hb_
        replace f4 := f4.below hb_
        replace hw := Below.after hw hb_
        clear hb_
        refine wpAny_take (i := 8) (v := ?v5) rfl (by kernel_rfl) (by kernel_rfl) (by kernel_rfl) (fun _ _ _ h => h) (Or.inl ⟨by rfl, ?y5⟩) ?r5
        case y5 =>
          intro w_
          go_simp
          try with_reducible rfl
        simp only [Act.put, List.getElem_toArray, List.getElem_cons_succ, List.getElem_cons_zero, List.setIfInBounds_toArray, List.set_cons_succ, List.set_cons_zero]
        refine wpAny_take (i := 9) (v := ?v6) rfl (by kernel_rfl) (by kernel_rfl) (by kernel_rfl) (fun _ _ _ h => h) (Or.inl ⟨by rfl, ?y6⟩) ?r6
        case y6 =>
          intro w_
          go_simp
          try with_reducible rfl
        simp only [Act.put, List.getElem_toArray, List.getElem_cons_succ, List.getElem_cons_zero, List.setIfInBounds_toArray, List.set_cons_succ, List.set_cons_zero]
        refine wpAny_ready (rs := [10]) (fuel := 2) (by kernel_rfl) (by simp) (AllReady.cons rfl (fun K' hK => ?_) AllReady.nil)
        rw [if_pos (by kernel_rfl)]
        simp only [List.getElem_toArray, List.getElem_cons_succ, List.getElem_cons_zero]
        refine wp_call_ex (f := 11) (by kernel_rfl) (ex1 (vec_any q5 f0 f4)) (fun v_ q6 hX_ => hK _ _ ?_)
        simp only [Act.put, List.setIfInBounds_toArray, List.set_cons_succ, List.set_cons_zero]
        clear hK
        obtain ⟨rfl, hb_⟩ := hX_
        replace ro := keep hb_ ro
        replace rx := keep hb_ rx
        replace rB := keep hb_ rB
        replace hKy := hKy.keep hb_
        replace hB := hB.keep hb_
        replace f0 := f0.below hb_
        replace f4 := f4.below hb_
        replace hw := Below.after hw hb_
        clear hb_
        refine wpAny_take (i := 11) (v := ?v7) rfl (by kernel_rfl) (by kernel_rfl) (by kernel_rfl) (fun _ _ _ h => h) (Or.inl ⟨by rfl, ?y7⟩) ?r7
        case y7 =>
          intro w_
          go_simp
          try with_reducible rfl
        simp only [Act.put, List.getElem_toArray, List.getElem_cons_succ, List.getElem_cons_zero, List.setIfInBounds_toArray, List.set_cons_succ, List.set_cons_zero]
        refine wpAny_take (i := 12) (v := ?v8) rfl (by kernel_rfl) (by kernel_rfl) (by kernel_rfl) (fun _ _ _ h => h) (Or.inl ⟨by rfl, ?y8⟩) ?r8
        case y8 =>
          intro w_
          go_simp
          try with_reducible rfl
        simp only [Act.put, List.getElem_toArray, List.getElem_cons_succ, List.getElem_cons_zero, List.setIfInBounds_toArray, List.set_cons_succ, List.set_cons_zero]
        refine wpAny_done (by kernel_rfl) ?_ _
        refine NoPanic.normal ?_
        go_wp2
        go_ret
        exact ⟨rfl, hw⟩
      · rw [if_pos (by kernel_rfl)]
        simp only [List.getElem_toArray, List.getElem_cons_succ, List.getElem_cons_zero]
        refine wp_world_op (.slice (some ⟨wd.heap.size, 0, none⟩) 2 2) (wd.alloc (.cells #[.slice (some ⟨gi + 1, 0, none⟩) 64 64, .slice (some ⟨gx, 0, none⟩) 32 32] 22)) (by kernel_rfl) (hK _ _ ?_)
        simp only [Act.put, List.setIfInBounds_toArray, List.set_cons_succ, List.set_cons_zero]
        clear hK
        have hb_ : Below wd.heap.size wd (wd.alloc (.cells #[.slice (some ⟨gi + 1, 0, none⟩) 64 64, .slice (some ⟨gx, 0, none⟩) 32 32] 22)) := (Below.refl _ _).alloc (Nat.le_refl _) _
        have rB := hp1_0 wd (.cells #[.slice (some ⟨gi + 1, 0, none⟩) 64 64, .slice (some ⟨gx, 0, none⟩) 32 32] 22)
        replace ro := keep hb_ ro
        replace rx := keep hb_ rx
        replace hKy := hKy.keep hb_
        replace hB := hB.keep hb_
        replace f0 := f0.below hb_
        replace f4 := f4.below hb_
        replace hw := Below.after hw hb_
        clear hb_
        generalize wd.alloc (.cells #[.slice (some ⟨gi + 1, 0, none⟩) 64 64, .slice (some ⟨gx, 0, none⟩) 32 32] 22) = q7 at *
        generalize wd.heap.size = g8 at *
        refine wpAny_ready (rs := [2]) (fuel := 7) (by kernel_rfl) (by simp) (AllReady.cons rfl (fun K' hK => ?_) AllReady.nil)
        rw [if_pos (by kernel_rfl)]
        simp only [List.getElem_toArray, List.getElem_cons_succ, List.getElem_cons_zero]
        refine wp_call_ex (f := 10) (by kernel_rfl) (ex1 (cM.out q7 f0 f4 hKy hB)) (fun v_ q9 hX_ => hK _ _ ?_)
        simp only [Act.put, List.setIfInBounds_toArray, List.set_cons_succ, List.set_cons_zero]
        clear hK
        obtain ⟨rfl, hb_⟩ := hX_
        replace ro := keep hb_ ro
        replace rx := keep hb_ rx
        replace rB := keep hb_ rB
        replace hKy := hKy.keep hb_
        replace hB := hB.keep hb_
        replace f0 := f0.below hb_
        replace f4 := f4.below hb_
        replace hw := Below.after hw hb_
        clear hb_
        refine wpAny_ready (rs := [6]) (fuel := 6) (by kernel_rfl) (by simp) (AllReady.cons rfl (fun K' hK => ?_) AllReady.nil)
        rw [if_pos (by kernel_rfl)]
        simp only [List.getElem_toArray, List.getElem_cons_succ, List.getElem_cons_zero]
        refine wp_call_ex (f := 8) (by kernel_rfl) (l_joined [kout key, I] q9 _ (Pcs.two rB (NB.of_row ro (by omega) zO 64 64 hol) (NB.of_row rx (by omega) hIz 32 32 hIl)) (by simp; omega)) (fun v_ q10 hX_ => hK _ _ ?_)
        simp only [Act.put, List.setIfInBounds_toArray, List.set_cons_succ, List.set_cons_zero]
        clear hK
        obtain ⟨oJ, hb_⟩ := hX_
        replace ro := keep hb_ ro
        replace rx := keep hb_ rx
        replace rB := keep hb_ rB
        replace hKy := hKy.keep hb_
        replace hB := hB.keep hb_
        replace f0 := f0.below hb_
        replace f4 := f4.below hb_
        replace hw := Below.after hw hb_
        replace oJ := oJ
        clear hb_
        rw [show [kout key, I].flatten = kout key ++ I by simp] at oJ
        refine wpAny_ready (rs := [7]) (fuel := 5) (by kernel_rfl) (by simp) (AllReady.cons rfl (fun K' hK => ?_) AllReady.nil)
        rw [if_pos (by kernel_rfl)]
        simp only [List.getElem_toArray, List.getElem_cons_succ, List.getElem_cons_zero]
        refine wp_call_ex (f := 9) (by kernel_rfl) (ex1 (cT.out q10 _ f0 f4 (Bys.of_own oJ lP zP) (own_cap oJ))) (fun v_ q11 hX_ => hK _ _ ?_)
        simp only [Act.put, List.setIfInBounds_toArray, List.set_cons_succ, List.set_cons_zero]
        clear hK
        obtain ⟨rfl, hb_⟩ := hX_
        replace ro := keep hb_ ro
        replace rx := keep hb_ rx
        replace rB := keep hb_ rB
        replace hKy := hKy.keep hb_
        replace hB := hB.keep hb_
        replace f0 := f0.below hb_
        replace f4 := f4.below hb_
        replace hw := Below.after hw hb_
        clear hb_
        refine wpAny_take (i := 8) (v := ?v9) rfl (by kernel_rfl) (by kernel_rfl) (by kernel_rfl) (fun _ _ _ h => h) (Or.inl ⟨by rfl, ?y9⟩) ?r9
        case y9 =>
          intro w_
          go_simp
          try with_reducible rfl
        simp only [Act.put, List.getElem_toArray, List.getElem_cons_succ, List.getElem_cons_zero, List.setIfInBounds_toArray, List.set_cons_succ, List.set_cons_zero]
        refine wpAny_take (i := 9) (v := ?v10) rfl (by kernel_rfl) (by kernel_rfl) (by kernel_rfl) (fun _ _ _ h => h) (Or.inl ⟨by rfl, ?y10⟩) ?r10
        case y10 =>
          intro w_
          go_simp
          try with_reducible rfl
        simp only [Act.put, List.getElem_toArray, List.getElem_cons_succ, List.getElem_cons_zero, List.setIfInBounds_toArray, List.set_cons_succ, List.set_cons_zero]
        refine wpAny_ready (rs := [10]) (fuel := 2) (by kernel_rfl) (by simp) (AllReady.cons rfl (fun K' hK => ?_) AllReady.nil)
        rw [if_pos (by kernel_rfl)]
        simp only [List.getElem_toArray, List.getElem_cons_succ, List.getElem_cons_zero]
        refine wp_call_ex (f := 11) (by kernel_rfl) (ex1 (vec_any q11 f0 f4)) (fun v_ q12 hX_ => hK _ _ ?_)
        simp only [Act.put, List.setIfInBounds_toArray, List.set_cons_succ, List.set_cons_zero]
        clear hK
        obtain ⟨rfl, hb_⟩ := hX_
        replace ro := keep hb_ ro
        replace rx := keep hb_ rx
        replace rB := keep hb_ rB
        replace hKy := hKy.keep hb_
        replace hB := hB.keep hb_
        replace f0 := f0.below hb_
        replace f4 := f4.below hb_
        replace hw := Below.after hw hb_
        clear hb_
        refine wpAny_take (i := 11) (v := ?v11) rfl (by kernel_rfl) (by kernel_rfl) (by kernel_rfl) (fun _ _ _ h => h) (Or.inl ⟨by rfl, ?y11⟩) ?r11
        case y11 =>
          intro w_
          go_simp
          try with_reducible rfl
        simp only [Act.put, List.getElem_toArray, List.getElem_cons_succ, List.getElem_cons_zero, List.setIfInBounds_toArray, List.set_cons_succ, List.set_cons_zero]
        refine wpAny_take (i := 12) (v := ?v12) rfl (by kernel_rfl) (by kernel_rfl) (by kernel_rfl) (fun _ _ _ h => h) (Or.inl ⟨by rfl, ?y12⟩) ?r12
        case y12 =>
          intro w_
          go_simp
          try with_reducible rfl
        simp only [Act.put, List.getElem_toArray, List.getElem_cons_succ, List.getElem_cons_zero, List.setIfInBounds_toArray, List.set_cons_succ, List.set_cons_zero]
        refine wpAny_done (by kernel_rfl) ?_ _
        refine NoPanic.normal ?_
        go_wp2
        go_ret
        exact ⟨rfl, hw⟩
theorem isHashes_any (key bs : List Int) (w : World) (vk vb : Value) (hS : Sta w) (hK : Kon w) (hKy : BysN w vk key) (qK : ∀ a l c, vk = .slice a l c → l ≤ c) (hB : BysN w vb bs) (qB : ∀ a l c, vb = .slice a l c → l ≤ c) : Calls Tryd.prog 3 #[vk, vb] w fun e w' => e = .returned (.bool true) ∧ Below w.heap.size w w' := by
  by_cases hl : 64 < key.length
  · exact isHashes_L key bs w vk vb hS hK hKy qK hB qB hl
  · exact isHashes_S key bs w vk vb hS hK hKy qK hB qB hl

end Go.Proofs.YtmcokphkaekdaabDoor
