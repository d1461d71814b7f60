import Derived.Test.YtmcokphkaekdaabDoorProg
import Derived.WalkKit
import Derived.WalkSpells
import Derived.WalkLawsBesides
import Derived.Lib.QuietBelow
import Derived.BigQuiet
import Derived.Test.YtmcokphkaekdaabDoorS0
import Derived.Test.YtmcokphkaekdaabDoorS3
import Derived.Deep.RegionHeld3
import Derived.OwnWalk
namespace Go.Proofs.YtmcokphkaekdaabDoor
open Go Go.RowKit Go.Sort
attribute [local go_sem] setCell_drewN alloc_drewN

theorem hx_make {a : Act} {o : Oper} (t : TypeId) (x y : Operand) (ho : o.op = .makeSlice t x y) (n : Nat) (hx : a.eval x = .int .i64 (n : Int)) (hy : a.eval y = .int .i64 (n : Int)) (W : World) (v : Value) (W' : World) (h : (Instr.makeSlice t (.int .i64 (n : Int)) (.int .i64 (n : Int))).run Tryd.prog W = .ok v W') : (execOp a.eval o).run Tryd.prog W = .ok (.value v) W' := by
  unfold execOp
  simp only [ho, hx, hy, Sem.run_bind, h]
  rfl
set_option maxRecDepth 100000 in
set_option maxHeartbeats 8000000 in
theorem macKeys_any (key bs : List Int) (n : Int) (w : World) (vk vb : Value) (hS : Sta w) (hK : Kon w) (hKy : BysN w vk key) (qK : ∀ a l c, vk = .slice a l c → l ≤ c) (hB : BysN w vb bs) (qB : ∀ a l c, vb = .slice a l c → l ≤ c) : Calls Tryd.prog 4 #[vk, vb, .int .i64 n] w fun e w' => e = .returned (.bool true) ∧ Below w.heap.size w w' := by
  have lK : key.length ≤ 140737488351232 := hKy.2.1
  have lB : bs.length ≤ 140737488351232 := hB.2.1
  have zK := bys_bd hKy.1
  have zB := bys_bd hB.1
  replace hKy := hKy.toM
  replace hB := hB.toM
  have hw := Below.refl w.heap.size w
  obtain ⟨uk, ukc, rfl, _⟩ := id hKy.1
  obtain ⟨ub, ubc, rfl, _⟩ := id hB.1
  have cS := a_macSum key bs w _ _ hS hK hKy.1 qK (by omega) hB.1 qB (by omega)
  have hHl := hm_len key bs
  obtain ⟨E, eE⟩ : ∃ E : List Int, E = [] := ⟨_, rfl⟩
  obtain ⟨E2, eE2⟩ : ∃ E2 : List Int, E2 = zr 32 := ⟨_, rfl⟩
  have hE : hm E bs = hm E2 bs := hm_of _ _ _ (by rw [eE, eE2]; exact (kb64_zr [] 32 (by simp)).symm)
  have hEl := hm_len E2 bs
  have lE : E.length ≤ 4611686018427380000 := by rw [eE]; simp
  have lE2 : E2.length = 32 := by rw [eE2]; exact zr_len 32
  have zE2 : ∀ z ∈ E2, 0 ≤ z ∧ z < 256 := by rw [eE2]; exact zr_bd 32
  have hnE : ∀ W, Bys W (.slice none 0 0) E := fun W => by rw [eE]; exact bys_nil W
  have cE1 := fun (W : World) a c (h2 : BysM W (.slice ub bs.length ubc) bs) => a_extract E bs W (.slice none 0 0) _ a c (hnE W) (fun a l c h => by cases h; exact Nat.le_refl _) lE h2.1 qB (by omega)
  have cE2 := fun (W : World) (v : Value) a c (h1 : Bys W v E2) h3 (h2 : BysM W (.slice ub bs.length ubc) bs) => a_extract E2 bs W v _ a c h1 h3 (by omega) h2.1 qB (by omega)
  rw [hE] at cE1
  have cK : ∀ (W : World) (L : List Int) (v : Value), kb64 L = kb64 key → L.length ≤ 4611686018427380000 → Sta W → Kon W → Bys W v L → (∀ a l c, v = .slice a l c → l ≤ c) → BysM W (.slice ub bs.length ubc) bs → Calls Tryd.prog 10 #[v, .slice ub bs.length ubc] W fun e w' => e = .returned (.agg (irow .u8 (hm key bs))) ∧ Below W.heap.size W w' := fun W L v hk hl a c h1 h2 h3 => by
    rw [← hm_of L key bs hk]
    exact a_macSum L bs W _ _ a c h1 h2 hl h3.1 qB (by omega)
  replace cK := hide cK
  replace cE1 := hide cE1
  replace cE2 := hide cE2
  clear hE
  generalize hm key bs = H at *
  generalize hm E2 bs = X at *
  have heq := eqHm H hHl
  have heqX := eqHm X hEl
  go_enter Tryd.func4, Tryd.ntmps4
  go_wp2_with (fail)
  refine cS.mono ?_
  rintro e_ w1 ⟨rfl, hb⟩
  replace hw := Below.after hw hb
  clear hb cS
  have rH := hp1_0 w1 (.cells (irow .u8 H) 25)
  have hba : Below w1.heap.size w1 (w1.alloc (.cells (irow .u8 H) 25)) := (Below.refl _ _).alloc (Nat.le_refl _) _
  replace hw := Below.after hw hba
  clear hba
  go_wp2_with (first | (refine wpList_alloc rfl 25 rfl (irow .u8 (zr 32)) zkey ?_) | (refine wpList_store_row rfl 25 _ _ rfl (w1.heap.size) (irow .u8 H) rfl rfl 25 _ (hp1_0 w1 _) (infok8 _ hHl) (fit32 _ _ (zr_len 32) hHl) (irow_one _ _) ?_; rw [setRow_alloc_new _ _ _ _ _ _ rfl]) | fail)
  generalize w1.alloc (.cells (irow .u8 H) 25) = w2 at *
  generalize w1.heap.size = gH at *
  have f0 := hS.below hw
  have f4 := hK.below hw
  replace hKy := hKy.keep hw
  replace hB := hB.keep hw
  replace eE2 := hide eE2
  have hbd : Below w2.heap.size w2 w2.drew := below_drN (Below.refl _ _) 1
  replace rH := keep hbd rH
  replace hKy := hKy.keep hbd
  replace hB := hB.keep hbd
  replace f0 := f0.below hbd
  replace f4 := f4.below hbd
  replace hw := Below.after hw hbd
  clear hbd
  refine wp_region_noPanic ?_
  refine wp_region_any (by kernel_rfl) ?_
  change wpAny _ _ _ _ _ _ _ (World.drew _)
  generalize w2.drew = wd at *
  refine wpAny_take (i := 0) (v := ?v1) rfl (by kernel_rfl) (by kernel_rfl) (by kernel_rfl) (fun _ _ _ h => h) (Or.inl ⟨by rfl, ?y1⟩) ?r1
  case y1 =>
    intro w_
    go_simp
    try with_reducible rfl
  simp only [Act.put, List.getElem_toArray, List.getElem_cons_zero, List.setIfInBounds_toArray, List.set_cons_succ, List.set_cons_zero]
  refine wpAny_take (i := 3) (v := ?v2) rfl (by kernel_rfl) (by kernel_rfl) (by kernel_rfl) (fun _ _ _ h => h) (Or.inl ⟨by rfl, ?y2⟩) ?r2
  case y2 =>
    intro w_
    go_simp
    try with_reducible rfl
  simp only [Act.put, List.getElem_toArray, List.getElem_cons_succ, List.getElem_cons_zero, List.setIfInBounds_toArray, List.set_cons_succ, List.set_cons_zero]
  refine wpAny_ready (rs := [1, 2]) (fuel := 7) (by kernel_rfl) (by simp) (AllReady.cons rfl (fun K' hK => ?_) (AllReady.cons rfl (fun K' hK => ?_) AllReady.nil))
  · rw [if_pos (by kernel_rfl)]
    simp only [List.getElem_toArray, List.getElem_cons_succ, List.getElem_cons_zero]
    refine wp_call_ex (f := 12) (by kernel_rfl) (ex1 (cE1.out wd f0 f4 hB)) (fun v_ q1 hX_ => hK _ _ ?_)
    simp only [Act.put, List.setIfInBounds_toArray, List.set_cons_succ, List.set_cons_zero]
    clear hK
    obtain ⟨rfl, hb_⟩ := hX_
    replace rH := keep hb_ rH
    replace hKy := hKy.keep hb_
    replace hB := hB.keep hb_
    replace f0 := f0.below hb_
    replace f4 := f4.below hb_
    replace hw := Below.after hw hb_
    clear hb_
    refine wpAny_ready (rs := [2]) (fuel := 6) (by kernel_rfl) (by simp) (AllReady.cons rfl (fun K' hK => ?_) AllReady.nil)
    rw [if_pos (by kernel_rfl)]
    simp only [List.getElem_toArray, List.getElem_cons_succ, List.getElem_cons_zero]
    refine wp_world_op (.slice (some ⟨q1.heap.size, 0, none⟩) 32 32) (q1.alloc (.cells (irow .u8 (zr 32)) 5)) (hx_make 22 _ _ rfl 32 rfl rfl q1 _ _ (make_i64 32 (by decide) q1)) (hK _ _ ?_)
    simp only [Act.put, List.setIfInBounds_toArray, List.set_cons_succ, List.set_cons_zero]
    clear hK
    have hb_ : Below q1.heap.size q1 (q1.alloc (.cells (irow .u8 (zr 32)) 5)) := (Below.refl _ _).alloc (Nat.le_refl _) _
    have rZ := hp1_0 q1 (.cells (irow .u8 (zr 32)) 5)
    replace rH := keep hb_ rH
    replace hKy := hKy.keep hb_
    replace hB := hB.keep hb_
    replace f0 := f0.below hb_
    replace f4 := f4.below hb_
    replace hw := Below.after hw hb_
    clear hb_
    generalize q1.alloc (.cells (irow .u8 (zr 32)) 5) = q2 at *
    generalize q1.heap.size = g3 at *
    rw [← eE2.out] at rZ
    refine wpAny_ready (rs := [4]) (fuel := 5) (by kernel_rfl) (by simp) (AllReady.cons rfl (fun K' hK => ?_) AllReady.nil)
    rw [if_pos (by kernel_rfl)]
    simp only [List.getElem_toArray, List.getElem_cons_succ, List.getElem_cons_zero]
    refine wp_call_ex (f := 12) (by kernel_rfl) (ex1 (cE2.out q2 _ f0 f4 (Bys.of_rowN rZ (by omega) zE2 lE2) (fun a l c h => by cases h; exact Nat.le_refl _) hB)) (fun v_ q4 hX_ => hK _ _ ?_)
    simp only [Act.put, List.setIfInBounds_toArray, List.set_cons_succ, List.set_cons_zero]
    clear hK
    obtain ⟨rfl, hb_⟩ := hX_
    replace rH := keep hb_ rH
    replace rZ := keep hb_ rZ
    replace hKy := hKy.keep hb_
    replace hB := hB.keep hb_
    replace f0 := f0.below hb_
    replace f4 := f4.below hb_
    replace hw := Below.after hw hb_
    clear hb_
    refine wpAny_take (i := 5) (v := ?v3) rfl (by kernel_rfl) (by kernel_rfl) (by kernel_rfl) (fun _ _ _ h => h) (Or.inl ⟨by rfl, ?y3⟩) ?r3
    case y3 =>
      intro w_
      go_simp
      try with_reducible rfl
    simp only [Act.put, List.getElem_toArray, List.getElem_cons_succ, List.getElem_cons_zero, List.setIfInBounds_toArray, List.set_cons_succ, List.set_cons_zero]
    refine wpAny_take (i := 6) (v := ?v4) rfl (by kernel_rfl) (by kernel_rfl) (by kernel_rfl) (fun _ _ _ h => h) (Or.inl ⟨by rfl, ?y4⟩) ?r4
    case y4 =>
      intro w_
      go_simp
      try with_reducible rfl
    simp only [Act.put, List.getElem_toArray, List.getElem_cons_succ, List.getElem_cons_zero, List.setIfInBounds_toArray, List.set_cons_succ, List.set_cons_zero]
    refine wpAny_ready (rs := [7]) (fuel := 2) (by kernel_rfl) (by simp) (AllReady.cons rfl (fun K' hK => ?_) AllReady.nil)
    rw [if_pos (by kernel_rfl)]
    simp only [List.getElem_toArray, List.getElem_cons_succ, List.getElem_cons_zero]
    refine wp_call_ex (f := 11) (by kernel_rfl) (ex1 (vec_any q4 f0 f4)) (fun v_ q5 hX_ => hK _ _ ?_)
    simp only [Act.put, List.setIfInBounds_toArray, List.set_cons_succ, List.set_cons_zero]
    clear hK
    obtain ⟨rfl, hb_⟩ := hX_
    replace rH := keep hb_ rH
    replace rZ := keep hb_ rZ
    replace hKy := hKy.keep hb_
    replace hB := hB.keep hb_
    replace f0 := f0.below hb_
    replace f4 := f4.below hb_
    replace hw := Below.after hw hb_
    clear hb_
    refine wpAny_take (i := 8) (v := ?v5) rfl (by kernel_rfl) (by kernel_rfl) (by kernel_rfl) (fun _ _ _ h => h) (Or.inl ⟨by rfl, ?y5⟩) ?r5
    case y5 =>
      intro w_
      go_simp
      try with_reducible rfl
    simp only [Act.put, List.getElem_toArray, List.getElem_cons_succ, List.getElem_cons_zero, List.setIfInBounds_toArray, List.set_cons_succ, List.set_cons_zero]
    refine wpAny_take (i := 9) (v := ?v6) rfl (by kernel_rfl) (by kernel_rfl) (by kernel_rfl) (fun _ _ _ h => h) (Or.inl ⟨by rfl, ?y6⟩) ?r6
    case y6 =>
      intro w_
      go_simp
      try with_reducible rfl
    simp only [Act.put, List.getElem_toArray, List.getElem_cons_succ, List.getElem_cons_zero, List.setIfInBounds_toArray, List.set_cons_succ, List.set_cons_zero]
    refine wpAny_done (by kernel_rfl) ?_ _
    refine NoPanic.normal ?_
    clear rZ
    by_cases hl : 64 < key.length
    · have hd : decide ((64 : Int) < (key.length : Int)) = true := decide_eq_true (by omega)
      have hks : kb64 (sumL key) = kb64 key := by
        have h := kb64_sh key
        rw [ksh, if_pos hl] at h
        exact h
      replace hks := hide hks
      have hSl := sumL_len key
      have hSz := sumL_bd key
      have cS := a_sum key q5 _ f0 f4 hKy.1 qK (by omega)
      generalize sumL key = KS at *
      go_wp2_with (fail)
      refine cS.mono ?_
      rintro e_ y1 ⟨rfl, hb⟩
      replace rH := keep hb rH
      replace hKy := hKy.keep hb
      replace hB := hB.keep hb
      replace f0 := f0.below hb
      replace f4 := f4.below hb
      replace hw := Below.after hw hb
      clear hb cS
      have r8 := hp1_0 y1 (.cells (irow .u8 KS) 25)
      have hba : Below y1.heap.size y1 (y1.alloc (.cells (irow .u8 KS) 25)) := (Below.refl _ _).alloc (Nat.le_refl _) _
      replace rH := keep hba rH
      replace hKy := hKy.keep hba
      replace hB := hB.keep hba
      replace f0 := f0.below hba
      replace f4 := f4.below hba
      replace hw := Below.after hw hba
      clear hba
      have sk2 := slice_k
      go_wp2_with (first | (refine wpList_alloc rfl 25 rfl (irow .u8 (zr 32)) zkey ?_) | (refine wpList_store_row rfl 25 _ _ rfl (y1.heap.size) (irow .u8 KS) rfl rfl 25 _ (hp1_0 y1 _) (infok8 _ hSl) (fit32 _ _ (zr_len 32) hSl) (irow_one _ _) ?_; rw [setRow_alloc_new _ _ _ _ _ _ rfl]) | fail)
      generalize y1.alloc (.cells (irow .u8 KS) 25) = y2 at *
      generalize y1.heap.size = g8 at *
      have hbd : Below y2.heap.size y2 y2.drew := below_drN (Below.refl _ _) 1
      replace rH := keep hbd rH
      replace r8 := keep hbd r8
      replace hKy := hKy.keep hbd
      replace hB := hB.keep hbd
      replace f0 := f0.below hbd
      replace f4 := f4.below hbd
      replace hw := Below.after hw hbd
      clear hbd
      refine wp_region_noPanic ?_
      refine wp_region_any (by kernel_rfl) ?_
      change wpAny _ _ _ _ _ _ _ (World.drew _)
      generalize y2.drew = z0 at *
      refine wpAny_take (i := 0) (v := ?v7) rfl (by kernel_rfl) (by kernel_rfl) (by kernel_rfl) (fun _ _ _ h => h) (Or.inl ⟨by rfl, ?y7⟩) ?r7
      case y7 =>
        intro w_
        go_simp
        try with_reducible rfl
      simp only [Act.put, List.getElem_toArray, List.getElem_cons_zero, List.setIfInBounds_toArray, List.set_cons_succ, List.set_cons_zero]
      refine wpAny_take (i := 1) (v := ?v8) rfl (by kernel_rfl) (by kernel_rfl) (by kernel_rfl) (fun _ _ _ h => h) (Or.inl ⟨by rfl, ?y8⟩) ?r8
      case y8 =>
        intro w_
        go_simp
        try with_reducible rfl
      simp only [Act.put, List.getElem_toArray, List.getElem_cons_succ, List.getElem_cons_zero, List.setIfInBounds_toArray, List.set_cons_succ, List.set_cons_zero]
      refine wpAny_ready (rs := [2, 3]) (fuel := 3) (by kernel_rfl) (by simp) (AllReady.cons rfl (fun K' hK => ?_) (AllReady.cons rfl (fun K' hK => ?_) AllReady.nil))
      · rw [if_pos (by kernel_rfl)]
        simp only [List.getElem_toArray, List.getElem_cons_succ, List.getElem_cons_zero]
        refine wp_call_ex (f := 10) (by kernel_rfl) (ex1 (cK.out z0 KS _ hks.out (by omega) f0 f4 (Bys.of_rowN r8 (by omega) hSz hSl) (fun a l c h => by cases h; exact Nat.le_refl _) hB)) (fun v_ q6 hX_ => hK _ _ ?_)
        simp only [Act.put, List.setIfInBounds_toArray, List.set_cons_succ, List.set_cons_zero]
        clear hK
        obtain ⟨rfl, hb_⟩ := hX_
        replace rH := keep hb_ rH
        replace r8 := keep hb_ r8
        replace hKy := hKy.keep hb_
        replace hB := hB.keep hb_
        replace f0 := f0.below hb_
        replace f4 := f4.below hb_
        replace hw := Below.after hw hb_
        clear hb_
        refine wpAny_ready (rs := [3]) (fuel := 2) (by kernel_rfl) (by simp) (AllReady.cons rfl (fun K' hK => ?_) AllReady.nil)
        rw [if_pos (by kernel_rfl)]
        simp only [List.getElem_toArray, List.getElem_cons_succ, List.getElem_cons_zero]
        refine wp_load_row 25 _ rfl (gH) rfl 25 (irow .u8 H) (0, 0) _ (rH) Tryd.underlying25 rfl (infok8 _ hHl) (hK _ _ ?_)
        simp only [Act.put, List.setIfInBounds_toArray, List.set_cons_succ, List.set_cons_zero]
        clear hK
        refine wpAny_take (i := 4) (v := ?v9) rfl (by kernel_rfl) (by kernel_rfl) (by kernel_rfl) (fun _ _ _ h => h) (Or.inl ⟨by rfl, ?y9⟩) ?r9
        case y9 =>
          intro w_
          go_simp
          try with_reducible rfl
        simp only [Act.put, List.getElem_toArray, List.getElem_cons_succ, List.getElem_cons_zero, List.setIfInBounds_toArray, List.set_cons_succ, List.set_cons_zero]
        refine wpAny_take (i := 5) (v := ?v10) rfl (by kernel_rfl) (by kernel_rfl) (by kernel_rfl) (fun _ _ _ h => h) (Or.inl ⟨by rfl, ?y10⟩) ?r10
        case y10 =>
          intro w_
          go_simp
          try with_reducible rfl
        simp only [Act.put, List.getElem_toArray, List.getElem_cons_succ, List.getElem_cons_zero, List.setIfInBounds_toArray, List.set_cons_succ, List.set_cons_zero]
        refine wpAny_done (by kernel_rfl) ?_ _
        refine NoPanic.normal ?_
        go_wp2
        go_ret
        exact ⟨rfl, hw⟩
      · rw [if_pos (by kernel_rfl)]
        simp only [List.getElem_toArray, List.getElem_cons_succ, List.getElem_cons_zero]
        refine wp_load_row 25 _ rfl (gH) rfl 25 (irow .u8 H) (0, 0) _ (rH) Tryd.underlying25 rfl (infok8 _ hHl) (hK _ _ ?_)
        simp only [Act.put, List.setIfInBounds_toArray, List.set_cons_succ, List.set_cons_zero]
        clear hK
        refine wpAny_ready (rs := [2]) (fuel := 2) (by kernel_rfl) (by simp) (AllReady.cons rfl (fun K' hK => ?_) AllReady.nil)
        rw [if_pos (by kernel_rfl)]
        simp only [List.getElem_toArray, List.getElem_cons_succ, List.getElem_cons_zero]
        refine wp_call_ex (f := 10) (by kernel_rfl) (ex1 (cK.out z0 KS _ hks.out (by omega) f0 f4 (Bys.of_rowN r8 (by omega) hSz hSl) (fun a l c h => by cases h; exact Nat.le_refl _) hB)) (fun v_ q7 hX_ => hK _ _ ?_)
        simp only [Act.put, List.setIfInBounds_toArray, List.set_cons_succ, List.set_cons_zero]
        clear hK
        obtain ⟨rfl, hb_⟩ := hX_
        replace rH := keep hb_ rH
        replace r8 := keep hb_ r8
        replace hKy := hKy.keep hb_
        replace hB := hB.keep hb_
        replace f0 := f0.below hb_
        replace f4 := f4.below hb_
        replace hw := Below.after hw hb_
        clear hb_
        refine wpAny_take (i := 4) (v := ?v11) rfl (by kernel_rfl) (by kernel_rfl) (by kernel_rfl) (fun _ _ _ h => h) (Or.inl ⟨by rfl, ?y11⟩) ?r11
        case y11 =>
          intro w_
          go_simp
          try with_reducible rfl
        simp only [Act.put, List.getElem_toArray, List.getElem_cons_succ, List.getElem_cons_zero, List.setIfInBounds_toArray, List.set_cons_succ, List.set_cons_zero]
        refine wpAny_take (i := 5) (v := ?v12) rfl (by kernel_rfl) (by kernel_rfl) (by kernel_rfl) (fun _ _ _ h => h) (Or.inl ⟨by rfl, ?y12⟩) ?r12
        case y12 =>
          intro w_
          go_simp
          try with_reducible rfl
        simp only [Act.put, List.getElem_toArray, List.getElem_cons_succ, List.getElem_cons_zero, List.setIfInBounds_toArray, List.set_cons_succ, List.set_cons_zero]
        refine wpAny_done (by kernel_rfl) ?_ _
        refine NoPanic.normal ?_
        go_wp2
        go_ret
        exact ⟨rfl, hw⟩
    · have hd : decide ((64 : Int) < (key.length : Int)) = false := decide_eq_false (by omega)
      by_cases hn : n < 0
      · have hd1 : decide (n < 0) = true := decide_eq_true hn
        obtain ⟨m, em⟩ : ∃ m : Nat, m = 64 - key.length := ⟨_, rfl⟩
        have em2 : (64 : Int) - (key.length : Int) = (m : Int) := by omega
        have hm64 : key.length + m ≤ 64 := by omega
        clear em
        go_wp2
        have hbd : Below q5.heap.size q5 q5.drew := below_drN (Below.refl _ _) 1
        replace rH := keep hbd rH
        replace hKy := hKy.keep hbd
        replace hB := hB.keep hbd
        replace f0 := f0.below hbd
        replace f4 := f4.below hbd
        replace hw := Below.after hw hbd
        clear hbd
        refine wp_region_noPanic ?_
        refine wp_region_any (by kernel_rfl) ?_
        change wpAny _ _ _ _ _ _ _ (World.drew _)
        generalize q5.drew = z0 at *
        refine wpAny_take (i := 0) (v := ?v13) rfl (by kernel_rfl) (by kernel_rfl) (by kernel_rfl) (fun _ _ _ h => h) (Or.inl ⟨by rfl, ?y13⟩) ?r13
        case y13 =>
          intro w_
          go_simp
          try with_reducible rfl
        simp only [Act.put, List.getElem_toArray, List.getElem_cons_zero, List.setIfInBounds_toArray, List.set_cons_succ, List.set_cons_zero]
        refine wpAny_take (i := 1) (v := ?v14) rfl (by kernel_rfl) (by kernel_rfl) (by kernel_rfl) (fun _ _ _ h => h) (Or.inl ⟨by rfl, ?y14⟩) ?r14
        case y14 =>
          intro w_
          go_simp
          try with_reducible rfl
        simp only [Act.put, List.getElem_toArray, List.getElem_cons_succ, List.getElem_cons_zero, List.setIfInBounds_toArray, List.set_cons_succ, List.set_cons_zero]
        refine wpAny_take (i := 5) (v := ?v15) rfl (by kernel_rfl) (by kernel_rfl) (by kernel_rfl) (fun _ _ _ h => h) (Or.inl ⟨by rfl, ?y15⟩) ?r15
        case y15 =>
          intro w_
          go_simp
          try with_reducible rfl
        simp only [Act.put, List.getElem_toArray, List.getElem_cons_succ, List.getElem_cons_zero, List.setIfInBounds_toArray, List.set_cons_succ, List.set_cons_zero]
        refine wpAny_ready (rs := [2, 7]) (fuel := 6) (by kernel_rfl) (by simp) (AllReady.cons rfl (fun K' hK => ?_) (AllReady.cons rfl (fun K' hK => ?_) AllReady.nil))
        · rw [if_pos (by kernel_rfl)]
          simp only [List.getElem_toArray, List.getElem_cons_succ, List.getElem_cons_zero]
          refine wp_world_op (.slice (some ⟨z0.heap.size, 0, none⟩) m m) (z0.alloc (.cells (irow .u8 (zr m)) 5)) (hx_make 22 _ _ rfl m rfl rfl z0 _ _ (make_i64 m (by omega) z0)) (hK _ _ ?_)
          simp only [Act.put, List.setIfInBounds_toArray, List.set_cons_succ, List.set_cons_zero]
          clear hK
          have hb_ : Below z0.heap.size z0 (z0.alloc (.cells (irow .u8 (zr m)) 5)) := (Below.refl _ _).alloc (Nat.le_refl _) _
          have rz := hp1_0 z0 (.cells (irow .u8 (zr m)) 5)
          replace rH := keep hb_ rH
          replace hKy := hKy.keep hb_
          replace hB := hB.keep hb_
          replace f0 := f0.below hb_
          replace f4 := f4.below hb_
          replace hw := Below.after hw hb_
          clear hb_
          generalize z0.alloc (.cells (irow .u8 (zr m)) 5) = q8 at *
          generalize z0.heap.size = g9 at *
          refine wpAny_ready (rs := [3, 7]) (fuel := 5) (by kernel_rfl) (by simp) (AllReady.cons rfl (fun K' hK => ?_) (AllReady.cons rfl (fun K' hK => ?_) AllReady.nil))
          · rw [if_pos (by kernel_rfl)]
            simp only [List.getElem_toArray, List.getElem_cons_succ, List.getElem_cons_zero]
            refine wp_world_op (.slice (some ⟨q8.heap.size, 0, none⟩) 2 2) (q8.alloc (.cells #[.slice uk key.length ukc, .slice (some ⟨g9, 0, none⟩) m m] 22)) (by kernel_rfl) (hK _ _ ?_)
            simp only [Act.put, List.setIfInBounds_toArray, List.set_cons_succ, List.set_cons_zero]
            clear hK
            have hb_ : Below q8.heap.size q8 (q8.alloc (.cells #[.slice uk key.length ukc, .slice (some ⟨g9, 0, none⟩) m m] 22)) := (Below.refl _ _).alloc (Nat.le_refl _) _
            have rB := hp1_0 q8 (.cells #[.slice uk key.length ukc, .slice (some ⟨g9, 0, none⟩) m m] 22)
            replace rH := keep hb_ rH
            replace rz := keep hb_ rz
            replace hKy := hKy.keep hb_
            replace hB := hB.keep hb_
            replace f0 := f0.below hb_
            replace f4 := f4.below hb_
            replace hw := Below.after hw hb_
            clear hb_
            generalize q8.alloc (.cells #[.slice uk key.length ukc, .slice (some ⟨g9, 0, none⟩) m m] 22) = q10 at *
            generalize q8.heap.size = g11 at *
            refine wpAny_ready (rs := [4, 7]) (fuel := 4) (by kernel_rfl) (by simp) (AllReady.cons rfl (fun K' hK => ?_) (AllReady.cons rfl (fun K' hK => ?_) AllReady.nil))
            · rw [if_pos (by kernel_rfl)]
              simp only [List.getElem_toArray, List.getElem_cons_succ, List.getElem_cons_zero]
              refine wp_call_ex (f := 8) (by kernel_rfl) (l_joined [key, zr m] q10 _ (Pcs.two rB hKy.nb (NB.of_row rz (by rw [zr_len]; omega) (zr_bd m) m m (zr_len m))) (by simp [zr_len]; omega)) (fun v_ q12 hX_ => hK _ _ ?_)
              simp only [Act.put, List.setIfInBounds_toArray, List.set_cons_succ, List.set_cons_zero]
              clear hK
              obtain ⟨oJ, hb_⟩ := hX_
              replace rH := keep hb_ rH
              replace rz := keep hb_ rz
              replace rB := keep hb_ rB
              replace hKy := hKy.keep hb_
              replace hB := hB.keep hb_
              replace f0 := f0.below hb_
              replace f4 := f4.below hb_
              replace hw := Below.after hw hb_
              clear hb_
              rw [show [key, zr m].flatten = key ++ zr m by simp] at oJ
              refine wpAny_ready (rs := [6, 7]) (fuel := 3) (by kernel_rfl) (by simp) (AllReady.cons rfl (fun K' hK => ?_) (AllReady.cons rfl (fun K' hK => ?_) AllReady.nil))
              · rw [if_pos (by kernel_rfl)]
                simp only [List.getElem_toArray, List.getElem_cons_succ, List.getElem_cons_zero]
                refine wp_call_ex (f := 10) (by kernel_rfl) (ex1 (cK.out q12 (key ++ zr m) _ (kb64_zr key m (by omega)) (by rw [List.length_append, zr_len]; omega) f0 f4 (Bys.of_own oJ (by rw [List.length_append, zr_len]; omega) (both_bd zK (zr_bd m))) (own_cap oJ) hB)) (fun v_ q13 hX_ => hK _ _ ?_)
                simp only [Act.put, List.setIfInBounds_toArray, List.set_cons_succ, List.set_cons_zero]
                clear hK
                obtain ⟨rfl, hb_⟩ := hX_
                replace rH := keep hb_ rH
                replace rz := keep hb_ rz
                replace rB := keep hb_ rB
                replace hKy := hKy.keep hb_
                replace hB := hB.keep hb_
                replace f0 := f0.below hb_
                replace f4 := f4.below hb_
                replace oJ := own_keep oJ hb_
                replace hw := Below.after hw hb_
                clear hb_
                refine wpAny_ready (rs := [7]) (fuel := 2) (by kernel_rfl) (by simp) (AllReady.cons rfl (fun K' hK => ?_) AllReady.nil)
                rw [if_pos (by kernel_rfl)]
                simp only [List.getElem_toArray, List.getElem_cons_succ, List.getElem_cons_zero]
                refine wp_load_row 25 _ rfl (gH) rfl 25 (irow .u8 H) (0, 0) _ (rH) Tryd.underlying25 rfl (infok8 _ hHl) (hK _ _ ?_)
                simp only [Act.put, List.setIfInBounds_toArray, List.set_cons_succ, List.set_cons_zero]
                clear hK
                refine wpAny_take (i := 8) (v := ?v16) rfl (by kernel_rfl) (by kernel_rfl) (by kernel_rfl) (fun _ _ _ h => h) (Or.inl ⟨by rfl, ?y16⟩) ?r16
                case y16 =>
                  intro w_
                  go_simp
                  try with_reducible rfl
                simp only [Act.put, List.getElem_toArray, List.getElem_cons_succ, List.getElem_cons_zero, List.setIfInBounds_toArray, List.set_cons_succ, List.set_cons_zero]
                refine wpAny_take (i := 9) (v := ?v17) rfl (by kernel_rfl) (by kernel_rfl) (by kernel_rfl) (fun _ _ _ h => h) (Or.inl ⟨by rfl, ?y17⟩) ?r17
                case y17 =>
                  intro w_
                  go_simp
                  try with_reducible rfl
                simp only [Act.put, List.getElem_toArray, List.getElem_cons_succ, List.getElem_cons_zero, List.setIfInBounds_toArray, List.set_cons_succ, List.set_cons_zero]
                refine wpAny_done (by kernel_rfl) ?_ _
                refine NoPanic.normal ?_
                go_wp2
                go_ret
                exact ⟨rfl, hw⟩
              · rw [if_pos (by kernel_rfl)]
                simp only [List.getElem_toArray, List.getElem_cons_succ, List.getElem_cons_zero]
                refine wp_load_row 25 _ rfl (gH) rfl 25 (irow .u8 H) (0, 0) _ (rH) Tryd.underlying25 rfl (infok8 _ hHl) (hK _ _ ?_)
                simp only [Act.put, List.setIfInBounds_toArray, List.set_cons_succ, List.set_cons_zero]
                clear hK
                refine wpAny_ready (rs := [6]) (fuel := 2) (by kernel_rfl) (by simp) (AllReady.cons rfl (fun K' hK => ?_) AllReady.nil)
                rw [if_pos (by kernel_rfl)]
                simp only [List.getElem_toArray, List.getElem_cons_succ, List.getElem_cons_zero]
                refine wp_call_ex (f := 10) (by kernel_rfl) (ex1 (cK.out q12 (key ++ zr m) _ (kb64_zr key m (by omega)) (by rw [List.length_append, zr_len]; omega) f0 f4 (Bys.of_own oJ (by rw [List.length_append, zr_len]; omega) (both_bd zK (zr_bd m))) (own_cap oJ) hB)) (fun v_ q14 hX_ => hK _ _ ?_)
                simp only [Act.put, List.setIfInBounds_toArray, List.set_cons_succ, List.set_cons_zero]
                clear hK
                obtain ⟨rfl, hb_⟩ := hX_
                replace rH := keep hb_ rH
                replace rz := keep hb_ rz
                replace rB := keep hb_ rB
                replace hKy := hKy.keep hb_
                replace hB := hB.keep hb_
                replace f0 := f0.below hb_
                replace f4 := f4.below hb_
                replace oJ := own_keep oJ hb_
                replace hw := Below.after hw hb_
                clear hb_
                refine wpAny_take (i := 8) (v := ?v18) rfl (by kernel_rfl) (by kernel_rfl) (by kernel_rfl) (fun _ _ _ h => h) (Or.inl ⟨by rfl, ?y18⟩) ?r18
                case y18 =>
                  intro w_
                  go_simp
                  try with_reducible rfl
                simp only [Act.put, List.getElem_toArray, List.getElem_cons_succ, List.getElem_cons_zero, List.setIfInBounds_toArray, List.set_cons_succ, List.set_cons_zero]
                refine wpAny_take (i := 9) (v := ?v19) rfl (by kernel_rfl) (by kernel_rfl) (by kernel_rfl) (fun _ _ _ h => h) (Or.inl ⟨by rfl, ?y19⟩) ?r19
                case y19 =>
                  intro w_
                  go_simp
                  try with_reducible rfl
                simp only [Act.put, List.getElem_toArray, List.getElem_cons_succ, List.getElem_cons_zero, List.setIfInBounds_toArray, List.set_cons_succ, List.set_cons_zero]
                refine wpAny_done (by kernel_rfl) ?_ _
                refine NoPanic.normal ?_
                go_wp2
                go_ret
                exact ⟨rfl, hw⟩
            · rw [if_pos (by kernel_rfl)]
              simp only [List.getElem_toArray, List.getElem_cons_succ, List.getElem_cons_zero]
              refine wp_load_row 25 _ rfl (gH) rfl 25 (irow .u8 H) (0, 0) _ (rH) Tryd.underlying25 rfl (infok8 _ hHl) (hK _ _ ?_)
              simp only [Act.put, List.setIfInBounds_toArray, List.set_cons_succ, List.set_cons_zero]
              clear hK
              refine wpAny_ready (rs := [4]) (fuel := 3) (by kernel_rfl) (by simp) (AllReady.cons rfl (fun K' hK => ?_) AllReady.nil)
              rw [if_pos (by kernel_rfl)]
              simp only [List.getElem_toArray, List.getElem_cons_succ, List.getElem_cons_zero]
              refine wp_call_ex (f := 8) (by kernel_rfl) (l_joined [key, zr m] q10 _ (Pcs.two rB hKy.nb (NB.of_row rz (by rw [zr_len]; omega) (zr_bd m) m m (zr_len m))) (by simp [zr_len]; omega)) (fun v_ q15 hX_ => hK _ _ ?_)
              simp only [Act.put, List.setIfInBounds_toArray, List.set_cons_succ, List.set_cons_zero]
              clear hK
              obtain ⟨oJ, hb_⟩ := hX_
              replace rH := keep hb_ rH
              replace rz := keep hb_ rz
              replace rB := keep hb_ rB
              replace hKy := hKy.keep hb_
              replace hB := hB.keep hb_
              replace f0 := f0.below hb_
              replace f4 := f4.below hb_
              replace hw := Below.after hw hb_
              clear hb_
              rw [show [key, zr m].flatten = key ++ zr m by simp] at oJ
              refine wpAny_ready (rs := [6]) (fuel := 2) (by kernel_rfl) (by simp) (AllReady.cons rfl (fun K' hK => ?_) AllReady.nil)
              rw [if_pos (by kernel_rfl)]
              simp only [List.getElem_toArray, List.getElem_cons_succ, List.getElem_cons_zero]
              refine wp_call_ex (f := 10) (by kernel_rfl) (ex1 (cK.out q15 (key ++ zr m) _ (kb64_zr key m (by omega)) (by rw [List.length_append, zr_len]; omega) f0 f4 (Bys.of_own oJ (by rw [List.length_append, zr_len]; omega) (both_bd zK (zr_bd m))) (own_cap oJ) hB)) (fun v_ q16 hX_ => hK _ _ ?_)
              simp only [Act.put, List.setIfInBounds_toArray, List.set_cons_succ, List.set_cons_zero]
              clear hK
              obtain ⟨rfl, hb_⟩ := hX_
              replace rH := keep hb_ rH
              replace rz := keep hb_ rz
              replace rB := keep hb_ rB
              replace hKy := hKy.keep hb_
              replace hB := hB.keep hb_
              replace f0 := f0.below hb_
              replace f4 := f4.below hb_
              replace oJ := own_keep oJ hb_
              replace hw := Below.after hw hb_
              clear hb_
              refine wpAny_take (i := 8) (v := ?v20) rfl (by kernel_rfl) (by kernel_rfl) (by kernel_rfl) (fun _ _ _ h => h) (Or.inl ⟨by rfl, ?y20⟩) ?r20
              case y20 =>
                intro w_
                go_simp
                try with_reducible rfl
              simp only [Act.put, List.getElem_toArray, List.getElem_cons_succ, List.getElem_cons_zero, List.setIfInBounds_toArray, List.set_cons_succ, List.set_cons_zero]
              refine wpAny_take (i := 9) (v := ?v21) rfl (by kernel_rfl) (by kernel_rfl) (by kernel_rfl) (fun _ _ _ h => h) (Or.inl ⟨by rfl, ?y21⟩) ?r21
              case y21 =>
                intro w_
                go_simp
                try with_reducible rfl
              simp only [Act.put, List.getElem_toArray, List.getElem_cons_succ, List.getElem_cons_zero, List.setIfInBounds_toArray, List.set_cons_succ, List.set_cons_zero]
              refine wpAny_done (by kernel_rfl) ?_ _
              refine NoPanic.normal ?_
              go_wp2
              go_ret
              exact ⟨rfl, hw⟩
          · rw [if_pos (by kernel_rfl)]
            simp only [List.getElem_toArray, List.getElem_cons_succ, List.getElem_cons_zero]
            refine wp_load_row 25 _ rfl (gH) rfl 25 (irow .u8 H) (0, 0) _ (rH) Tryd.underlying25 rfl (infok8 _ hHl) (hK _ _ ?_)
            simp only [Act.put, List.setIfInBounds_toArray, List.set_cons_succ, List.set_cons_zero]
            clear hK
            refine wpAny_ready (rs := [3]) (fuel := 4) (by kernel_rfl) (by simp) (AllReady.cons rfl (fun K' hK => ?_) AllReady.nil)
            rw [if_pos (by kernel_rfl)]
            simp only [List.getElem_toArray, List.getElem_cons_succ, List.getElem_cons_zero]
            refine wp_world_op (.slice (some ⟨q8.heap.size, 0, none⟩) 2 2) (q8.alloc (.cells #[.slice uk key.length ukc, .slice (some ⟨g9, 0, none⟩) m m] 22)) (by kernel_rfl) (hK _ _ ?_)
            simp only [Act.put, List.setIfInBounds_toArray, List.set_cons_succ, List.set_cons_zero]
            clear hK
            have hb_ : Below q8.heap.size q8 (q8.alloc (.cells #[.slice uk key.length ukc, .slice (some ⟨g9, 0, none⟩) m m] 22)) := (Below.refl _ _).alloc (Nat.le_refl _) _
            have rB := hp1_0 q8 (.cells #[.slice uk key.length ukc, .slice (some ⟨g9, 0, none⟩) m m] 22)
            replace rH := keep hb_ rH
            replace rz := keep hb_ rz
            replace hKy := hKy.keep hb_
            replace hB := hB.keep hb_
            replace f0 := f0.below hb_
            replace f4 := f4.below hb_
            replace hw := Below.after hw hb_
            clear hb_
            generalize q8.alloc (.cells #[.slice uk key.length ukc, .slice (some ⟨g9, 0, none⟩) m m] 22) = q17 at *
            generalize q8.heap.size = g18 at *
            refine wpAny_ready (rs := [4]) (fuel := 3) (by kernel_rfl) (by simp) (AllReady.cons rfl (fun K' hK => ?_) AllReady.nil)
            rw [if_pos (by kernel_rfl)]
            simp only [List.getElem_toArray, List.getElem_cons_succ, List.getElem_cons_zero]
            refine wp_call_ex (f := 8) (by kernel_rfl) (l_joined [key, zr m] q17 _ (Pcs.two rB hKy.nb (NB.of_row rz (by rw [zr_len]; omega) (zr_bd m) m m (zr_len m))) (by simp [zr_len]; omega)) (fun v_ q19 hX_ => hK _ _ ?_)
            simp only [Act.put, List.setIfInBounds_toArray, List.set_cons_succ, List.set_cons_zero]
            clear hK
            obtain ⟨oJ, hb_⟩ := hX_
            replace rH := keep hb_ rH
            replace rz := keep hb_ rz
            replace rB := keep hb_ rB
            replace hKy := hKy.keep hb_
            replace hB := hB.keep hb_
            replace f0 := f0.below hb_
            replace f4 := f4.below hb_
            replace hw := Below.after hw hb_
            clear hb_
            rw [show [key, zr m].flatten = key ++ zr m by simp] at oJ
            refine wpAny_ready (rs := [6]) (fuel := 2) (by kernel_rfl) (by simp) (AllReady.cons rfl (fun K' hK => ?_) AllReady.nil)
            rw [if_pos (by kernel_rfl)]
            simp only [List.getElem_toArray, List.getElem_cons_succ, List.getElem_cons_zero]
            refine wp_call_ex (f := 10) (by kernel_rfl) (ex1 (cK.out q19 (key ++ zr m) _ (kb64_zr key m (by omega)) (by rw [List.length_append, zr_len]; omega) f0 f4 (Bys.of_own oJ (by rw [List.length_append, zr_len]; omega) (both_bd zK (zr_bd m))) (own_cap oJ) hB)) (fun v_ q20 hX_ => hK _ _ ?_)
            simp only [Act.put, List.setIfInBounds_toArray, List.set_cons_succ, List.set_cons_zero]
            clear hK
            obtain ⟨rfl, hb_⟩ := hX_
            replace rH := keep hb_ rH
            replace rz := keep hb_ rz
            replace rB := keep hb_ rB
            replace hKy := hKy.keep hb_
            replace hB := hB.keep hb_
            replace f0 := f0.below hb_
            replace f4 := f4.below hb_
            replace oJ := own_keep oJ hb_
            replace hw := Below.after hw hb_
            clear hb_
            refine wpAny_take (i := 8) (v := ?v22) rfl (by kernel_rfl) (by kernel_rfl) (by kernel_rfl) (fun _ _ _ h => h) (Or.inl ⟨by rfl, ?y22⟩) ?r22
            case y22 =>
              intro w_
              go_simp
              try with_reducible rfl
            simp only [Act.put, List.getElem_toArray, List.getElem_cons_succ, List.getElem_cons_zero, List.setIfInBounds_toArray, List.set_cons_succ, List.set_cons_zero]
            refine wpAny_take (i := 9) (v := ?v23) rfl (by kernel_rfl) (by kernel_rfl) (by kernel_rfl) (fun _ _ _ h => h) (Or.inl ⟨by rfl, ?y23⟩) ?r23
            case y23 =>
              intro w_
              go_simp
              try with_reducible rfl
            simp only [Act.put, List.getElem_toArray, List.getElem_cons_succ, List.getElem_cons_zero, List.setIfInBounds_toArray, List.set_cons_succ, List.set_cons_zero]
            refine wpAny_done (by kernel_rfl) ?_ _
            refine NoPanic.normal ?_
            go_wp2
            go_ret
            exact ⟨rfl, hw⟩
        · rw [if_pos (by kernel_rfl)]
          simp only [List.getElem_toArray, List.getElem_cons_succ, List.getElem_cons_zero]
          refine wp_load_row 25 _ rfl (gH) rfl 25 (irow .u8 H) (0, 0) _ (rH) Tryd.underlying25 rfl (infok8 _ hHl) (hK _ _ ?_)
          simp only [Act.put, List.setIfInBounds_toArray, List.set_cons_succ, List.set_cons_zero]
          clear hK
          refine wpAny_ready (rs := [2]) (fuel := 5) (by kernel_rfl) (by simp) (AllReady.cons rfl (fun K' hK => ?_) AllReady.nil)
          rw [if_pos (by kernel_rfl)]
          simp only [List.getElem_toArray, List.getElem_cons_succ, List.getElem_cons_zero]
          refine wp_world_op (.slice (some ⟨z0.heap.size, 0, none⟩) m m) (z0.alloc (.cells (irow .u8 (zr m)) 5)) (hx_make 22 _ _ rfl m rfl rfl z0 _ _ (make_i64 m (by omega) z0)) (hK _ _ ?_)
          simp only [Act.put, List.setIfInBounds_toArray, List.set_cons_succ, List.set_cons_zero]
          clear hK
          have hb_ : Below z0.heap.size z0 (z0.alloc (.cells (irow .u8 (zr m)) 5)) := (Below.refl _ _).alloc (Nat.le_refl _) _
          have rz := hp1_0 z0 (.cells (irow .u8 (zr m)) 5)
          replace rH := keep hb_ rH
          replace hKy := hKy.keep hb_
          replace hB := hB.keep hb_
          replace f0 := f0.below hb_
          replace f4 := f4.below hb_
          replace hw := Below.after hw hb_
          clear hb_
          generalize z0.alloc (.cells (irow .u8 (zr m)) 5) = q21 at *
          generalize z0.heap.size = g22 at *
          refine wpAny_ready (rs := [3]) (fuel := 4) (by kernel_rfl) (by simp) (AllReady.cons rfl (fun K' hK => ?_) AllReady.nil)
          rw [if_pos (by kernel_rfl)]
          simp only [List.getElem_toArray, List.getElem_cons_succ, List.getElem_cons_zero]
          refine wp_world_op (.slice (some ⟨q21.heap.size, 0, none⟩) 2 2) (q21.alloc (.cells #[.slice uk key.length ukc, .slice (some ⟨g22, 0, none⟩) m m] 22)) (by kernel_rfl) (hK _ _ ?_)
          simp only [Act.put, List.setIfInBounds_toArray, List.set_cons_succ, List.set_cons_zero]
          clear hK
          have hb_ : Below q21.heap.size q21 (q21.alloc (.cells #[.slice uk key.length ukc, .slice (some ⟨g22, 0, none⟩) m m] 22)) := (Below.refl _ _).alloc (Nat.le_refl _) _
          have rB := hp1_0 q21 (.cells #[.slice uk key.length ukc, .slice (some ⟨g22, 0, none⟩) m m] 22)
          replace rH := keep hb_ rH
          replace rz := keep hb_ rz
          replace hKy := hKy.keep hb_
          replace hB := hB.keep hb_
          replace f0 := f0.below hb_
          replace f4 := f4.below hb_
          replace hw := Below.after hw hb_
          clear hb_
          generalize q21.alloc (.cells #[.slice uk key.length ukc, .slice (some ⟨g22, 0, none⟩) m m] 22) = q23 at *
          generalize q21.heap.size = g24 at *
          refine wpAny_ready (rs := [4]) (fuel := 3) (by kernel_rfl) (by simp) (AllReady.cons rfl (fun K' hK => ?_) AllReady.nil)
          rw [if_pos (by kernel_rfl)]
          simp only [List.getElem_toArray, List.getElem_cons_succ, List.getElem_cons_zero]
          refine wp_call_ex (f := 8) (by kernel_rfl) (l_joined [key, zr m] q23 _ (Pcs.two rB hKy.nb (NB.of_row rz (by rw [zr_len]; omega) (zr_bd m) m m (zr_len m))) (by simp [zr_len]; omega)) (fun v_ q25 hX_ => hK _ _ ?_)
          simp only [Act.put, List.setIfInBounds_toArray, List.set_cons_succ, List.set_cons_zero]
          clear hK
          obtain ⟨oJ, hb_⟩ := hX_
          replace rH := keep hb_ rH
          replace rz := keep hb_ rz
          replace rB := keep hb_ rB
          replace hKy := hKy.keep hb_
          replace hB := hB.keep hb_
          replace f0 := f0.below hb_
          replace f4 := f4.below hb_
          replace hw := Below.after hw hb_
          clear hb_
          rw [show [key, zr m].flatten = key ++ zr m by simp] at oJ
          refine wpAny_ready (rs := [6]) (fuel := 2) (by kernel_rfl) (by simp) (AllReady.cons rfl (fun K' hK => ?_) AllReady.nil)
          rw [if_pos (by kernel_rfl)]
          simp only [List.getElem_toArray, List.getElem_cons_succ, List.getElem_cons_zero]
          refine wp_call_ex (f := 10) (by kernel_rfl) (ex1 (cK.out q25 (key ++ zr m) _ (kb64_zr key m (by omega)) (by rw [List.length_append, zr_len]; omega) f0 f4 (Bys.of_own oJ (by rw [List.length_append, zr_len]; omega) (both_bd zK (zr_bd m))) (own_cap oJ) hB)) (fun v_ q26 hX_ => hK _ _ ?_)
          simp only [Act.put, List.setIfInBounds_toArray, List.set_cons_succ, List.set_cons_zero]
          clear hK
          obtain ⟨rfl, hb_⟩ := hX_
          replace rH := keep hb_ rH
          replace rz := keep hb_ rz
          replace rB := keep hb_ rB
          replace hKy := hKy.keep hb_
          replace hB := hB.keep hb_
          replace f0 := f0.below hb_
          replace f4 := f4.below hb_
          replace oJ := own_keep oJ hb_
          replace hw := Below.after hw hb_
          clear hb_
          refine wpAny_take (i := 8) (v := ?v24) rfl (by kernel_rfl) (by kernel_rfl) (by kernel_rfl) (fun _ _ _ h => h) (Or.inl ⟨by rfl, ?y24⟩) ?r24
          case y24 =>
            intro w_
            go_simp
            try with_reducible rfl
          simp only [Act.put, List.getElem_toArray, List.getElem_cons_succ, List.getElem_cons_zero, List.setIfInBounds_toArray, List.set_cons_succ, List.set_cons_zero]
          refine wpAny_take (i := 9) (v := ?v25) rfl (by kernel_rfl) (by kernel_rfl) (by kernel_rfl) (fun _ _ _ h => h) (Or.inl ⟨by rfl, ?y25⟩) ?r25
          case y25 =>
            intro w_
            go_simp
            try with_reducible rfl
          simp only [Act.put, List.getElem_toArray, List.getElem_cons_succ, List.getElem_cons_zero, List.setIfInBounds_toArray, List.set_cons_succ, List.set_cons_zero]
          refine wpAny_done (by kernel_rfl) ?_ _
          refine NoPanic.normal ?_
          go_wp2
          go_ret
          exact ⟨rfl, hw⟩
      · have hd1 : decide (n < 0) = false := decide_eq_false hn
        obtain ⟨k, rfl⟩ := Int.eq_ofNat_of_zero_le (show 0 ≤ n by omega)
        by_cases hn2 : 64 - (key.length : Int) < (k : Int)
        · have hd2 : decide (64 - (key.length : Int) < (k : Int)) = true := decide_eq_true hn2
          obtain ⟨m, em⟩ : ∃ m : Nat, m = 64 - key.length := ⟨_, rfl⟩
          have em2 : (64 : Int) - (key.length : Int) = (m : Int) := by omega
          rw [em2] at hd2
          have hd3 : m < k := by omega
          have hm64 : key.length + m ≤ 64 := by omega
          clear em
          go_wp2
          have hbd : Below q5.heap.size q5 q5.drew := below_drN (Below.refl _ _) 1
          replace rH := keep hbd rH
          replace hKy := hKy.keep hbd
          replace hB := hB.keep hbd
          replace f0 := f0.below hbd
          replace f4 := f4.below hbd
          replace hw := Below.after hw hbd
          clear hbd
          refine wp_region_noPanic ?_
          refine wp_region_any (by kernel_rfl) ?_
          change wpAny _ _ _ _ _ _ _ (World.drew _)
          generalize q5.drew = z0 at *
          refine wpAny_take (i := 0) (v := ?v26) rfl (by kernel_rfl) (by kernel_rfl) (by kernel_rfl) (fun _ _ _ h => h) (Or.inl ⟨by rfl, ?y26⟩) ?r26
          case y26 =>
            intro w_
            go_simp
            try with_reducible rfl
          simp only [Act.put, List.getElem_toArray, List.getElem_cons_zero, List.setIfInBounds_toArray, List.set_cons_succ, List.set_cons_zero]
          refine wpAny_take (i := 1) (v := ?v27) rfl (by kernel_rfl) (by kernel_rfl) (by kernel_rfl) (fun _ _ _ h => h) (Or.inl ⟨by rfl, ?y27⟩) ?r27
          case y27 =>
            intro w_
            go_simp
            try with_reducible rfl
          simp only [Act.put, List.getElem_toArray, List.getElem_cons_succ, List.getElem_cons_zero, List.setIfInBounds_toArray, List.set_cons_succ, List.set_cons_zero]
          refine wpAny_take (i := 5) (v := ?v28) rfl (by kernel_rfl) (by kernel_rfl) (by kernel_rfl) (fun _ _ _ h => h) (Or.inl ⟨by rfl, ?y28⟩) ?r28
          case y28 =>
            intro w_
            go_simp
            try with_reducible rfl
          simp only [Act.put, List.getElem_toArray, List.getElem_cons_succ, List.getElem_cons_zero, List.setIfInBounds_toArray, List.set_cons_succ, List.set_cons_zero]
          refine wpAny_ready (rs := [2, 7]) (fuel := 6) (by kernel_rfl) (by simp) (AllReady.cons rfl (fun K' hK => ?_) (AllReady.cons rfl (fun K' hK => ?_) AllReady.nil))
          · rw [if_pos (by kernel_rfl)]
            simp only [List.getElem_toArray, List.getElem_cons_succ, List.getElem_cons_zero]
            refine wp_world_op (.slice (some ⟨z0.heap.size, 0, none⟩) m m) (z0.alloc (.cells (irow .u8 (zr m)) 5)) (hx_make 22 _ _ rfl m rfl rfl z0 _ _ (make_i64 m (by omega) z0)) (hK _ _ ?_)
            simp only [Act.put, List.setIfInBounds_toArray, List.set_cons_succ, List.set_cons_zero]
            clear hK
            have hb_ : Below z0.heap.size z0 (z0.alloc (.cells (irow .u8 (zr m)) 5)) := (Below.refl _ _).alloc (Nat.le_refl _) _
            have rz := hp1_0 z0 (.cells (irow .u8 (zr m)) 5)
            replace rH := keep hb_ rH
            replace hKy := hKy.keep hb_
            replace hB := hB.keep hb_
            replace f0 := f0.below hb_
            replace f4 := f4.below hb_
            replace hw := Below.after hw hb_
            clear hb_
            generalize z0.alloc (.cells (irow .u8 (zr m)) 5) = q27 at *
            generalize z0.heap.size = g28 at *
            refine wpAny_ready (rs := [3, 7]) (fuel := 5) (by kernel_rfl) (by simp) (AllReady.cons rfl (fun K' hK => ?_) (AllReady.cons rfl (fun K' hK => ?_) AllReady.nil))
            · rw [if_pos (by kernel_rfl)]
              simp only [List.getElem_toArray, List.getElem_cons_succ, List.getElem_cons_zero]
              refine wp_world_op (.slice (some ⟨q27.heap.size, 0, none⟩) 2 2) (q27.alloc (.cells #[.slice uk key.length ukc, .slice (some ⟨g28, 0, none⟩) m m] 22)) (by kernel_rfl) (hK _ _ ?_)
              simp only [Act.put, List.setIfInBounds_toArray, List.set_cons_succ, List.set_cons_zero]
              clear hK
              have hb_ : Below q27.heap.size q27 (q27.alloc (.cells #[.slice uk key.length ukc, .slice (some ⟨g28, 0, none⟩) m m] 22)) := (Below.refl _ _).alloc (Nat.le_refl _) _
              have rB := hp1_0 q27 (.cells #[.slice uk key.length ukc, .slice (some ⟨g28, 0, none⟩) m m] 22)
              replace rH := keep hb_ rH
              replace rz := keep hb_ rz
              replace hKy := hKy.keep hb_
              replace hB := hB.keep hb_
              replace f0 := f0.below hb_
              replace f4 := f4.below hb_
              replace hw := Below.after hw hb_
              clear hb_
              generalize q27.alloc (.cells #[.slice uk key.length ukc, .slice (some ⟨g28, 0, none⟩) m m] 22) = q29 at *
              generalize q27.heap.size = g30 at *
              refine wpAny_ready (rs := [4, 7]) (fuel := 4) (by kernel_rfl) (by simp) (AllReady.cons rfl (fun K' hK => ?_) (AllReady.cons rfl (fun K' hK => ?_) AllReady.nil))
              · rw [if_pos (by kernel_rfl)]
                simp only [List.getElem_toArray, List.getElem_cons_succ, List.getElem_cons_zero]
                refine wp_call_ex (f := 8) (by kernel_rfl) (l_joined [key, zr m] q29 _ (Pcs.two rB hKy.nb (NB.of_row rz (by rw [zr_len]; omega) (zr_bd m) m m (zr_len m))) (by simp [zr_len]; omega)) (fun v_ q31 hX_ => hK _ _ ?_)
                simp only [Act.put, List.setIfInBounds_toArray, List.set_cons_succ, List.set_cons_zero]
                clear hK
                obtain ⟨oJ, hb_⟩ := hX_
                replace rH := keep hb_ rH
                replace rz := keep hb_ rz
                replace rB := keep hb_ rB
                replace hKy := hKy.keep hb_
                replace hB := hB.keep hb_
                replace f0 := f0.below hb_
                replace f4 := f4.below hb_
                replace hw := Below.after hw hb_
                clear hb_
                rw [show [key, zr m].flatten = key ++ zr m by simp] at oJ
                refine wpAny_ready (rs := [6, 7]) (fuel := 3) (by kernel_rfl) (by simp) (AllReady.cons rfl (fun K' hK => ?_) (AllReady.cons rfl (fun K' hK => ?_) AllReady.nil))
                · rw [if_pos (by kernel_rfl)]
                  simp only [List.getElem_toArray, List.getElem_cons_succ, List.getElem_cons_zero]
                  refine wp_call_ex (f := 10) (by kernel_rfl) (ex1 (cK.out q31 (key ++ zr m) _ (kb64_zr key m (by omega)) (by rw [List.length_append, zr_len]; omega) f0 f4 (Bys.of_own oJ (by rw [List.length_append, zr_len]; omega) (both_bd zK (zr_bd m))) (own_cap oJ) hB)) (fun v_ q32 hX_ => hK _ _ ?_)
                  simp only [Act.put, List.setIfInBounds_toArray, List.set_cons_succ, List.set_cons_zero]
                  clear hK
                  obtain ⟨rfl, hb_⟩ := hX_
                  replace rH := keep hb_ rH
                  replace rz := keep hb_ rz
                  replace rB := keep hb_ rB
                  replace hKy := hKy.keep hb_
                  replace hB := hB.keep hb_
                  replace f0 := f0.below hb_
                  replace f4 := f4.below hb_
                  replace oJ := own_keep oJ hb_
                  replace hw := Below.after hw hb_
                  clear hb_
                  refine wpAny_ready (rs := [7]) (fuel := 2) (by kernel_rfl) (by simp) (AllReady.cons rfl (fun K' hK => ?_) AllReady.nil)
                  rw [if_pos (by kernel_rfl)]
                  simp only [List.getElem_toArray, List.getElem_cons_succ, List.getElem_cons_zero]
                  refine wp_load_row 25 _ rfl (gH) rfl 25 (irow .u8 H) (0, 0) _ (rH) Tryd.underlying25 rfl (infok8 _ hHl) (hK _ _ ?_)
                  simp only [Act.put, List.setIfInBounds_toArray, List.set_cons_succ, List.set_cons_zero]
                  clear hK
                  refine wpAny_take (i := 8) (v := ?v29) rfl (by kernel_rfl) (by kernel_rfl) (by kernel_rfl) (fun _ _ _ h => h) (Or.inl ⟨by rfl, ?y29⟩) ?r29
                  case y29 =>
                    intro w_
                    go_simp
                    try with_reducible rfl
                  simp only [Act.put, List.getElem_toArray, List.getElem_cons_succ, List.getElem_cons_zero, List.setIfInBounds_toArray, List.set_cons_succ, List.set_cons_zero]
                  refine wpAny_take (i := 9) (v := ?v30) rfl (by kernel_rfl) (by kernel_rfl) (by kernel_rfl) (fun _ _ _ h => h) (Or.inl ⟨by rfl, ?y30⟩) ?r30
                  case y30 =>
                    intro w_
                    go_simp
                    try with_reducible rfl
                  simp only [Act.put, List.getElem_toArray, List.getElem_cons_succ, List.getElem_cons_zero, List.setIfInBounds_toArray, List.set_cons_succ, List.set_cons_zero]
                  refine wpAny_done (by kernel_rfl) ?_ _
                  refine NoPanic.normal ?_
                  go_wp2
                  go_ret
                  exact ⟨rfl, hw⟩
                · rw [if_pos (by kernel_rfl)]
                  simp only [List.getElem_toArray, List.getElem_cons_succ, List.getElem_cons_zero]
                  refine wp_load_row 25 _ rfl (gH) rfl 25 (irow .u8 H) (0, 0) _ (rH) Tryd.underlying25 rfl (infok8 _ hHl) (hK _ _ ?_)
                  simp only [Act.put, List.setIfInBounds_toArray, List.set_cons_succ, List.set_cons_zero]
                  clear hK
                  refine wpAny_ready (rs := [6]) (fuel := 2) (by kernel_rfl) (by simp) (AllReady.cons rfl (fun K' hK => ?_) AllReady.nil)
                  rw [if_pos (by kernel_rfl)]
                  simp only [List.getElem_toArray, List.getElem_cons_succ, List.getElem_cons_zero]
                  refine wp_call_ex (f := 10) (by kernel_rfl) (ex1 (cK.out q31 (key ++ zr m) _ (kb64_zr key m (by omega)) (by rw [List.length_append, zr_len]; omega) f0 f4 (Bys.of_own oJ (by rw [List.length_append, zr_len]; omega) (both_bd zK (zr_bd m))) (own_cap oJ) hB)) (fun v_ q33 hX_ => hK _ _ ?_)
                  simp only [Act.put, List.setIfInBounds_toArray, List.set_cons_succ, List.set_cons_zero]
                  clear hK
                  obtain ⟨rfl, hb_⟩ := hX_
                  replace rH := keep hb_ rH
                  replace rz := keep hb_ rz
                  replace rB := keep hb_ rB
                  replace hKy := hKy.keep hb_
                  replace hB := hB.keep hb_
                  replace f0 := f0.below hb_
                  replace f4 := f4.below hb_
                  replace oJ := own_keep oJ hb_
                  replace hw := Below.after hw hb_
                  clear hb_
                  refine wpAny_take (i := 8) (v := ?v31) rfl (by kernel_rfl) (by kernel_rfl) (by kernel_rfl) (fun _ _ _ h => h) (Or.inl ⟨by rfl, ?y31⟩) ?r31
                  case y31 =>
                    intro w_
                    go_simp
                    try with_reducible rfl
                  simp only [Act.put, List.getElem_toArray, List.getElem_cons_succ, List.getElem_cons_zero, List.setIfInBounds_toArray, List.set_cons_succ, List.set_cons_zero]
                  refine wpAny_take (i := 9) (v := ?v32) rfl (by kernel_rfl) (by kernel_rfl) (by kernel_rfl) (fun _ _ _ h => h) (Or.inl ⟨by rfl, ?y32⟩) ?r32
                  case y32 =>
                    intro w_
                    go_simp
                    try with_reducible rfl
                  simp only [Act.put, List.getElem_toArray, List.getElem_cons_succ, List.getElem_cons_zero, List.setIfInBounds_toArray, List.set_cons_succ, List.set_cons_zero]
                  refine wpAny_done (by kernel_rfl) ?_ _
                  refine NoPanic.normal ?_
                  go_wp2
                  go_ret
                  exact ⟨rfl, hw⟩
              · rw [if_pos (by kernel_rfl)]
                simp only [List.getElem_toArray, List.getElem_cons_succ, List.getElem_cons_zero]
                refine wp_load_row 25 _ rfl (gH) rfl 25 (irow .u8 H) (0, 0) _ (rH) Tryd.underlying25 rfl (infok8 _ hHl) (hK _ _ ?_)
                simp only [Act.put, List.setIfInBounds_toArray, List.set_cons_succ, List.set_cons_zero]
                clear hK
                refine wpAny_ready (rs := [4]) (fuel := 3) (by kernel_rfl) (by simp) (AllReady.cons rfl (fun K' hK => ?_) AllReady.nil)
                rw [if_pos (by kernel_rfl)]
                simp only [List.getElem_toArray, List.getElem_cons_succ, List.getElem_cons_zero]
                refine wp_call_ex (f := 8) (by kernel_rfl) (l_joined [key, zr m] q29 _ (Pcs.two rB hKy.nb (NB.of_row rz (by rw [zr_len]; omega) (zr_bd m) m m (zr_len m))) (by simp [zr_len]; omega)) (fun v_ q34 hX_ => hK _ _ ?_)
                simp only [Act.put, List.setIfInBounds_toArray, List.set_cons_succ, List.set_cons_zero]
                clear hK
                obtain ⟨oJ, hb_⟩ := hX_
                replace rH := keep hb_ rH
                replace rz := keep hb_ rz
                replace rB := keep hb_ rB
                replace hKy := hKy.keep hb_
                replace hB := hB.keep hb_
                replace f0 := f0.below hb_
                replace f4 := f4.below hb_
                replace hw := Below.after hw hb_
                clear hb_
                rw [show [key, zr m].flatten = key ++ zr m by simp] at oJ
                refine wpAny_ready (rs := [6]) (fuel := 2) (by kernel_rfl) (by simp) (AllReady.cons rfl (fun K' hK => ?_) AllReady.nil)
                rw [if_pos (by kernel_rfl)]
                simp only [List.getElem_toArray, List.getElem_cons_succ, List.getElem_cons_zero]
                refine wp_call_ex (f := 10) (by kernel_rfl) (ex1 (cK.out q34 (key ++ zr m) _ (kb64_zr key m (by omega)) (by rw [List.length_append, zr_len]; omega) f0 f4 (Bys.of_own oJ (by rw [List.length_append, zr_len]; omega) (both_bd zK (zr_bd m))) (own_cap oJ) hB)) (fun v_ q35 hX_ => hK _ _ ?_)
                simp only [Act.put, List.setIfInBounds_toArray, List.set_cons_succ, List.set_cons_zero]
                clear hK
                obtain ⟨rfl, hb_⟩ := hX_
                replace rH := keep hb_ rH
                replace rz := keep hb_ rz
                replace rB := keep hb_ rB
                replace hKy := hKy.keep hb_
                replace hB := hB.keep hb_
                replace f0 := f0.below hb_
                replace f4 := f4.below hb_
                replace oJ := own_keep oJ hb_
                replace hw := Below.after hw hb_
                clear hb_
                refine wpAny_take (i := 8) (v := ?v33) rfl (by kernel_rfl) (by kernel_rfl) (by kernel_rfl) (fun _ _ _ h => h) (Or.inl ⟨by rfl, ?y33⟩) ?r33
                case y33 =>
                  intro w_
                  go_simp
                  try with_reducible rfl
                simp only [Act.put, List.getElem_toArray, List.getElem_cons_succ, List.getElem_cons_zero, List.setIfInBounds_toArray, List.set_cons_succ, List.set_cons_zero]
                refine wpAny_take (i := 9) (v := ?v34) rfl (by kernel_rfl) (by kernel_rfl) (by kernel_rfl) (fun _ _ _ h => h) (Or.inl ⟨by rfl, ?y34⟩) ?r34
                case y34 =>
                  intro w_
                  go_simp
                  try with_reducible rfl
                simp only [Act.put, List.getElem_toArray, List.getElem_cons_succ, List.getElem_cons_zero, List.setIfInBounds_toArray, List.set_cons_succ, List.set_cons_zero]
                refine wpAny_done (by kernel_rfl) ?_ _
                refine NoPanic.normal ?_
                go_wp2
                go_ret
                exact ⟨rfl, hw⟩
            · rw [if_pos (by kernel_rfl)]
              simp only [List.getElem_toArray, List.getElem_cons_succ, List.getElem_cons_zero]
              refine wp_load_row 25 _ rfl (gH) rfl 25 (irow .u8 H) (0, 0) _ (rH) Tryd.underlying25 rfl (infok8 _ hHl) (hK _ _ ?_)
              simp only [Act.put, List.setIfInBounds_toArray, List.set_cons_succ, List.set_cons_zero]
              clear hK
              refine wpAny_ready (rs := [3]) (fuel := 4) (by kernel_rfl) (by simp) (AllReady.cons rfl (fun K' hK => ?_) AllReady.nil)
              rw [if_pos (by kernel_rfl)]
              simp only [List.getElem_toArray, List.getElem_cons_succ, List.getElem_cons_zero]
              refine wp_world_op (.slice (some ⟨q27.heap.size, 0, none⟩) 2 2) (q27.alloc (.cells #[.slice uk key.length ukc, .slice (some ⟨g28, 0, none⟩) m m] 22)) (by kernel_rfl) (hK _ _ ?_)
              simp only [Act.put, List.setIfInBounds_toArray, List.set_cons_succ, List.set_cons_zero]
              clear hK
              have hb_ : Below q27.heap.size q27 (q27.alloc (.cells #[.slice uk key.length ukc, .slice (some ⟨g28, 0, none⟩) m m] 22)) := (Below.refl _ _).alloc (Nat.le_refl _) _
              have rB := hp1_0 q27 (.cells #[.slice uk key.length ukc, .slice (some ⟨g28, 0, none⟩) m m] 22)
              replace rH := keep hb_ rH
              replace rz := keep hb_ rz
              replace hKy := hKy.keep hb_
              replace hB := hB.keep hb_
              replace f0 := f0.below hb_
              replace f4 := f4.below hb_
              replace hw := Below.after hw hb_
              clear hb_
              generalize q27.alloc (.cells #[.slice uk key.length ukc, .slice (some ⟨g28, 0, none⟩) m m] 22) = q36 at *
              generalize q27.heap.size = g37 at *
              refine wpAny_ready (rs := [4]) (fuel := 3) (by kernel_rfl) (by simp) (AllReady.cons rfl (fun K' hK => ?_) AllReady.nil)
              rw [if_pos (by kernel_rfl)]
              simp only [List.getElem_toArray, List.getElem_cons_succ, List.getElem_cons_zero]
              refine wp_call_ex (f := 8) (by kernel_rfl) (l_joined [key, zr m] q36 _ (Pcs.two rB hKy.nb (NB.of_row rz (by rw [zr_len]; omega) (zr_bd m) m m (zr_len m))) (by simp [zr_len]; omega)) (fun v_ q38 hX_ => hK _ _ ?_)
              simp only [Act.put, List.setIfInBounds_toArray, List.set_cons_succ, List.set_cons_zero]
              clear hK
              obtain ⟨oJ, hb_⟩ := hX_
              replace rH := keep hb_ rH
              replace rz := keep hb_ rz
              replace rB := keep hb_ rB
              replace hKy := hKy.keep hb_
              replace hB := hB.keep hb_
              replace f0 := f0.below hb_
              replace f4 := f4.below hb_
              replace hw := Below.after hw hb_
              clear hb_
              rw [show [key, zr m].flatten = key ++ zr m by simp] at oJ
              refine wpAny_ready (rs := [6]) (fuel := 2) (by kernel_rfl) (by simp) (AllReady.cons rfl (fun K' hK => ?_) AllReady.nil)
              rw [if_pos (by kernel_rfl)]
              simp only [List.getElem_toArray, List.getElem_cons_succ, List.getElem_cons_zero]
              refine wp_call_ex (f := 10) (by kernel_rfl) (ex1 (cK.out q38 (key ++ zr m) _ (kb64_zr key m (by omega)) (by rw [List.length_append, zr_len]; omega) f0 f4 (Bys.of_own oJ (by rw [List.length_append, zr_len]; omega) (both_bd zK (zr_bd m))) (own_cap oJ) hB)) (fun v_ q39 hX_ => hK _ _ ?_)
              simp only [Act.put, List.setIfInBounds_toArray, List.set_cons_succ, List.set_cons_zero]
              clear hK
              obtain ⟨rfl, hb_⟩ := hX_
              replace rH := keep hb_ rH
              replace rz := keep hb_ rz
              replace rB := keep hb_ rB
              replace hKy := hKy.keep hb_
              replace hB := hB.keep hb_
              replace f0 := f0.below hb_
              replace f4 := f4.below hb_
              replace oJ := own_keep oJ hb_
              replace hw := Below.after hw hb_
              clear hb_
              refine wpAny_take (i := 8) (v := ?v35) rfl (by kernel_rfl) (by kernel_rfl) (by kernel_rfl) (fun _ _ _ h => h) (Or.inl ⟨by rfl, ?y35⟩) ?r35
              case y35 =>
                intro w_
                go_simp
                try with_reducible rfl
              simp only [Act.put, List.getElem_toArray, List.getElem_cons_succ, List.getElem_cons_zero, List.setIfInBounds_toArray, List.set_cons_succ, List.set_cons_zero]
              refine wpAny_take (i := 9) (v := ?v36) rfl (by kernel_rfl) (by kernel_rfl) (by kernel_rfl) (fun _ _ _ h => h) (Or.inl ⟨by rfl, ?y36⟩) ?r36
              case y36 =>
                intro w_
                go_simp
                try with_reducible rfl
              simp only [Act.put, List.getElem_toArray, List.getElem_cons_succ, List.getElem_cons_zero, List.setIfInBounds_toArray, List.set_cons_succ, List.set_cons_zero]
              refine wpAny_done (by kernel_rfl) ?_ _
              refine NoPanic.normal ?_
              go_wp2
              go_ret
              exact ⟨rfl, hw⟩
          · rw [if_pos (by kernel_rfl)]
            simp only [List.getElem_toArray, List.getElem_cons_succ, List.getElem_cons_zero]
            refine wp_load_row 25 _ rfl (gH) rfl 25 (irow .u8 H) (0, 0) _ (rH) Tryd.underlying25 rfl (infok8 _ hHl) (hK _ _ ?_)
            simp only [Act.put, List.setIfInBounds_toArray, List.set_cons_succ, List.set_cons_zero]
            clear hK
            refine wpAny_ready (rs := [2]) (fuel := 5) (by kernel_rfl) (by simp) (AllReady.cons rfl (fun K' hK => ?_) AllReady.nil)
            rw [if_pos (by kernel_rfl)]
            simp only [List.getElem_toArray, List.getElem_cons_succ, List.getElem_cons_zero]
            refine wp_world_op (.slice (some ⟨z0.heap.size, 0, none⟩) m m) (z0.alloc (.cells (irow .u8 (zr m)) 5)) (hx_make 22 _ _ rfl m rfl rfl z0 _ _ (make_i64 m (by omega) z0)) (hK _ _ ?_)
            simp only [Act.put, List.setIfInBounds_toArray, List.set_cons_succ, List.set_cons_zero]
            clear hK
            have hb_ : Below z0.heap.size z0 (z0.alloc (.cells (irow .u8 (zr m)) 5)) := (Below.refl _ _).alloc (Nat.le_refl _) _
            have rz := hp1_0 z0 (.cells (irow .u8 (zr m)) 5)
            replace rH := keep hb_ rH
            replace hKy := hKy.keep hb_
            replace hB := hB.keep hb_
            replace f0 := f0.below hb_
            replace f4 := f4.below hb_
            replace hw := Below.after hw hb_
            clear hb_
            generalize z0.alloc (.cells (irow .u8 (zr m)) 5) = q40 at *
            generalize z0.heap.size = g41 at *
            refine wpAny_ready (rs := [3]) (fuel := 4) (by kernel_rfl) (by simp) (AllReady.cons rfl (fun K' hK => ?_) AllReady.nil)
            rw [if_pos (by kernel_rfl)]
            simp only [List.getElem_toArray, List.getElem_cons_succ, List.getElem_cons_zero]
            refine wp_world_op (.slice (some ⟨q40.heap.size, 0, none⟩) 2 2) (q40.alloc (.cells #[.slice uk key.length ukc, .slice (some ⟨g41, 0, none⟩) m m] 22)) (by kernel_rfl) (hK _ _ ?_)
            simp only [Act.put, List.setIfInBounds_toArray, List.set_cons_succ, List.set_cons_zero]
            clear hK
            have hb_ : Below q40.heap.size q40 (q40.alloc (.cells #[.slice uk key.length ukc, .slice (some ⟨g41, 0, none⟩) m m] 22)) := (Below.refl _ _).alloc (Nat.le_refl _) _
            have rB := hp1_0 q40 (.cells #[.slice uk key.length ukc, .slice (some ⟨g41, 0, none⟩) m m] 22)
            replace rH := keep hb_ rH
            replace rz := keep hb_ rz
            replace hKy := hKy.keep hb_
            replace hB := hB.keep hb_
            replace f0 := f0.below hb_
            replace f4 := f4.below hb_
            replace hw := Below.after hw hb_
            clear hb_
            generalize q40.alloc (.cells #[.slice uk key.length ukc, .slice (some ⟨g41, 0, none⟩) m m] 22) = q42 at *
            generalize q40.heap.size = g43 at *
            refine wpAny_ready (rs := [4]) (fuel := 3) (by kernel_rfl) (by simp) (AllReady.cons rfl (fun K' hK => ?_) AllReady.nil)
            rw [if_pos (by kernel_rfl)]
            simp only [List.getElem_toArray, List.getElem_cons_succ, List.getElem_cons_zero]
            refine wp_call_ex (f := 8) (by kernel_rfl) (l_joined [key, zr m] q42 _ (Pcs.two rB hKy.nb (NB.of_row rz (by rw [zr_len]; omega) (zr_bd m) m m (zr_len m))) (by simp [zr_len]; omega)) (fun v_ q44 hX_ => hK _ _ ?_)
            simp only [Act.put, List.setIfInBounds_toArray, List.set_cons_succ, List.set_cons_zero]
            clear hK
            obtain ⟨oJ, hb_⟩ := hX_
            replace rH := keep hb_ rH
            replace rz := keep hb_ rz
            replace rB := keep hb_ rB
            replace hKy := hKy.keep hb_
            replace hB := hB.keep hb_
            replace f0 := f0.below hb_
            replace f4 := f4.below hb_
            replace hw := Below.after hw hb_
            clear hb_
            rw [show [key, zr m].flatten = key ++ zr m by simp] at oJ
            refine wpAny_ready (rs := [6]) (fuel := 2) (by kernel_rfl) (by simp) (AllReady.cons rfl (fun K' hK => ?_) AllReady.nil)
            rw [if_pos (by kernel_rfl)]
            simp only [List.getElem_toArray, List.getElem_cons_succ, List.getElem_cons_zero]
            refine wp_call_ex (f := 10) (by kernel_rfl) (ex1 (cK.out q44 (key ++ zr m) _ (kb64_zr key m (by omega)) (by rw [List.length_append, zr_len]; omega) f0 f4 (Bys.of_own oJ (by rw [List.length_append, zr_len]; omega) (both_bd zK (zr_bd m))) (own_cap oJ) hB)) (fun v_ q45 hX_ => hK _ _ ?_)
            simp only [Act.put, List.setIfInBounds_toArray, List.set_cons_succ, List.set_cons_zero]
            clear hK
            obtain ⟨rfl, hb_⟩ := hX_
            replace rH := keep hb_ rH
            replace rz := keep hb_ rz
            replace rB := keep hb_ rB
            replace hKy := hKy.keep hb_
            replace hB := hB.keep hb_
            replace f0 := f0.below hb_
            replace f4 := f4.below hb_
            replace oJ := own_keep oJ hb_
            replace hw := Below.after hw hb_
            clear hb_
            refine wpAny_take (i := 8) (v := ?v37) rfl (by kernel_rfl) (by kernel_rfl) (by kernel_rfl) (fun _ _ _ h => h) (Or.inl ⟨by rfl, ?y37⟩) ?r37
            case y37 =>
              intro w_
              go_simp
              try with_reducible rfl
            simp only [Act.put, List.getElem_toArray, List.getElem_cons_succ, List.getElem_cons_zero, List.setIfInBounds_toArray, List.set_cons_succ, List.set_cons_zero]
            refine wpAny_take (i := 9) (v := ?v38) rfl (by kernel_rfl) (by kernel_rfl) (by kernel_rfl) (fun _ _ _ h => h) (Or.inl ⟨by rfl, ?y38⟩) ?r38
            case y38 =>
              intro w_
              go_simp
              try with_reducible rfl
            simp only [Act.put, List.getElem_toArray, List.getElem_cons_succ, List.getElem_cons_zero, List.setIfInBounds_toArray, List.set_cons_succ, List.set_cons_zero]
            refine wpAny_done (by kernel_rfl) ?_ _
            refine NoPanic.normal ?_
            go_wp2
            go_ret
            exact ⟨rfl, hw⟩
        · have hd2 : decide (64 - (key.length : Int) < (k : Int)) = false := decide_eq_false hn2
          obtain ⟨m, em⟩ : ∃ m : Nat, m = k := ⟨_, rfl⟩
          subst em
          go_wp2
          have hbd : Below q5.heap.size q5 q5.drew := below_drN (Below.refl _ _) 1
          replace rH := keep hbd rH
          replace hKy := hKy.keep hbd
          replace hB := hB.keep hbd
          replace f0 := f0.below hbd
          replace f4 := f4.below hbd
          replace hw := Below.after hw hbd
          clear hbd
          refine wp_region_noPanic ?_
          refine wp_region_any (by kernel_rfl) ?_
          change wpAny _ _ _ _ _ _ _ (World.drew _)
          generalize q5.drew = z0 at *
          refine wpAny_take (i := 0) (v := ?v39) rfl (by kernel_rfl) (by kernel_rfl) (by kernel_rfl) (fun _ _ _ h => h) (Or.inl ⟨by rfl, ?y39⟩) ?r39
          case y39 =>
            intro w_
            go_simp
            try with_reducible rfl
          simp only [Act.put, List.getElem_toArray, List.getElem_cons_zero, List.setIfInBounds_toArray, List.set_cons_succ, List.set_cons_zero]
          refine wpAny_take (i := 1) (v := ?v40) rfl (by kernel_rfl) (by kernel_rfl) (by kernel_rfl) (fun _ _ _ h => h) (Or.inl ⟨by rfl, ?y40⟩) ?r40
          case y40 =>
            intro w_
            go_simp
            try with_reducible rfl
          simp only [Act.put, List.getElem_toArray, List.getElem_cons_succ, List.getElem_cons_zero, List.setIfInBounds_toArray, List.set_cons_succ, List.set_cons_zero]
          refine wpAny_take (i := 5) (v := ?v41) rfl (by kernel_rfl) (by kernel_rfl) (by kernel_rfl) (fun _ _ _ h => h) (Or.inl ⟨by rfl, ?y41⟩) ?r41
          case y41 =>
            intro w_
            go_simp
            try with_reducible rfl
          simp only [Act.put, List.getElem_toArray, List.getElem_cons_succ, List.getElem_cons_zero, List.setIfInBounds_toArray, List.set_cons_succ, List.set_cons_zero]
          refine wpAny_ready (rs := [2, 7]) (fuel := 6) (by kernel_rfl) (by simp) (AllReady.cons rfl (fun K' hK => ?_) (AllReady.cons rfl (fun K' hK => ?_) AllReady.nil))
          · rw [if_pos (by kernel_rfl)]
            simp only [List.getElem_toArray, List.getElem_cons_succ, List.getElem_cons_zero]
            refine wp_world_op (.slice (some ⟨z0.heap.size, 0, none⟩) m m) (z0.alloc (.cells (irow .u8 (zr m)) 5)) (hx_make 22 _ _ rfl m rfl rfl z0 _ _ (make_i64 m (by omega) z0)) (hK _ _ ?_)
            simp only [Act.put, List.setIfInBounds_toArray, List.set_cons_succ, List.set_cons_zero]
            clear hK
            have hb_ : Below z0.heap.size z0 (z0.alloc (.cells (irow .u8 (zr m)) 5)) := (Below.refl _ _).alloc (Nat.le_refl _) _
            have rz := hp1_0 z0 (.cells (irow .u8 (zr m)) 5)
            replace rH := keep hb_ rH
            replace hKy := hKy.keep hb_
            replace hB := hB.keep hb_
            replace f0 := f0.below hb_
            replace f4 := f4.below hb_
            replace hw := Below.after hw hb_
            clear hb_
            generalize z0.alloc (.cells (irow .u8 (zr m)) 5) = q46 at *
            generalize z0.heap.size = g47 at *
            refine wpAny_ready (rs := [3, 7]) (fuel := 5) (by kernel_rfl) (by simp) (AllReady.cons rfl (fun K' hK => ?_) (AllReady.cons rfl (fun K' hK => ?_) AllReady.nil))
            · rw [if_pos (by kernel_rfl)]
              simp only [List.getElem_toArray, List.getElem_cons_succ, List.getElem_cons_zero]
              refine wp_world_op (.slice (some ⟨q46.heap.size, 0, none⟩) 2 2) (q46.alloc (.cells #[.slice uk key.length ukc, .slice (some ⟨g47, 0, none⟩) m m] 22)) (by kernel_rfl) (hK _ _ ?_)
              simp only [Act.put, List.setIfInBounds_toArray, List.set_cons_succ, List.set_cons_zero]
              clear hK
              have hb_ : Below q46.heap.size q46 (q46.alloc (.cells #[.slice uk key.length ukc, .slice (some ⟨g47, 0, none⟩) m m] 22)) := (Below.refl _ _).alloc (Nat.le_refl _) _
              have rB := hp1_0 q46 (.cells #[.slice uk key.length ukc, .slice (some ⟨g47, 0, none⟩) m m] 22)
              replace rH := keep hb_ rH
              replace rz := keep hb_ rz
              replace hKy := hKy.keep hb_
              replace hB := hB.keep hb_
              replace f0 := f0.below hb_
              replace f4 := f4.below hb_
              replace hw := Below.after hw hb_
              clear hb_
              generalize q46.alloc (.cells #[.slice uk key.length ukc, .slice (some ⟨g47, 0, none⟩) m m] 22) = q48 at *
              generalize q46.heap.size = g49 at *
              refine wpAny_ready (rs := [4, 7]) (fuel := 4) (by kernel_rfl) (by simp) (AllReady.cons rfl (fun K' hK => ?_) (AllReady.cons rfl (fun K' hK => ?_) AllReady.nil))
              · rw [if_pos (by kernel_rfl)]
                simp only [List.getElem_toArray, List.getElem_cons_succ, List.getElem_cons_zero]
                refine wp_call_ex (f := 8) (by kernel_rfl) (l_joined [key, zr m] q48 _ (Pcs.two rB hKy.nb (NB.of_row rz (by rw [zr_len]; omega) (zr_bd m) m m (zr_len m))) (by simp [zr_len]; omega)) (fun v_ q50 hX_ => hK _ _ ?_)
                simp only [Act.put, List.setIfInBounds_toArray, List.set_cons_succ, List.set_cons_zero]
                clear hK
                obtain ⟨oJ, hb_⟩ := hX_
                replace rH := keep hb_ rH
                replace rz := keep hb_ rz
                replace rB := keep hb_ rB
                replace hKy := hKy.keep hb_
                replace hB := hB.keep hb_
                replace f0 := f0.below hb_
                replace f4 := f4.below hb_
                replace hw := Below.after hw hb_
                clear hb_
                rw [show [key, zr m].flatten = key ++ zr m by simp] at oJ
                refine wpAny_ready (rs := [6, 7]) (fuel := 3) (by kernel_rfl) (by simp) (AllReady.cons rfl (fun K' hK => ?_) (AllReady.cons rfl (fun K' hK => ?_) AllReady.nil))
                · rw [if_pos (by kernel_rfl)]
                  simp only [List.getElem_toArray, List.getElem_cons_succ, List.getElem_cons_zero]
                  refine wp_call_ex (f := 10) (by kernel_rfl) (ex1 (cK.out q50 (key ++ zr m) _ (kb64_zr key m (by omega)) (by rw [List.length_append, zr_len]; omega) f0 f4 (Bys.of_own oJ (by rw [List.length_append, zr_len]; omega) (both_bd zK (zr_bd m))) (own_cap oJ) hB)) (fun v_ q51 hX_ => hK _ _ ?_)
                  simp only [Act.put, List.setIfInBounds_toArray, List.set_cons_succ, List.set_cons_zero]
                  clear hK
                  obtain ⟨rfl, hb_⟩ := hX_
                  replace rH := keep hb_ rH
                  replace rz := keep hb_ rz
                  replace rB := keep hb_ rB
                  replace hKy := hKy.keep hb_
                  replace hB := hB.keep hb_
                  replace f0 := f0.below hb_
                  replace f4 := f4.below hb_
                  replace oJ := own_keep oJ hb_
                  replace hw := Below.after hw hb_
                  clear hb_
                  refine wpAny_ready (rs := [7]) (fuel := 2) (by kernel_rfl) (by simp) (AllReady.cons rfl (fun K' hK => ?_) AllReady.nil)
                  rw [if_pos (by kernel_rfl)]
                  simp only [List.getElem_toArray, List.getElem_cons_succ, List.getElem_cons_zero]
                  refine wp_load_row 25 _ rfl (gH) rfl 25 (irow .u8 H) (0, 0) _ (rH) Tryd.underlying25 rfl (infok8 _ hHl) (hK _ _ ?_)
                  simp only [Act.put, List.setIfInBounds_toArray, List.set_cons_succ, List.set_cons_zero]
                  clear hK
                  refine wpAny_take (i := 8) (v := ?v42) rfl (by kernel_rfl) (by kernel_rfl) (by kernel_rfl) (fun _ _ _ h => h) (Or.inl ⟨by rfl, ?y42⟩) ?r42
                  case y42 =>
                    intro w_
                    go_simp
                    try with_reducible rfl
                  simp only [Act.put, List.getElem_toArray, List.getElem_cons_succ, List.getElem_cons_zero, List.setIfInBounds_toArray, List.set_cons_succ, List.set_cons_zero]
                  refine wpAny_take (i := 9) (v := ?v43) rfl (by kernel_rfl) (by kernel_rfl) (by kernel_rfl) (fun _ _ _ h => h) (Or.inl ⟨by rfl, ?y43⟩) ?r43
                  case y43 =>
                    intro w_
                    go_simp
                    try with_reducible rfl
                  simp only [Act.put, List.getElem_toArray, List.getElem_cons_succ, List.getElem_cons_zero, List.setIfInBounds_toArray, List.set_cons_succ, List.set_cons_zero]
                  refine wpAny_done (by kernel_rfl) ?_ _
                  refine NoPanic.normal ?_
                  go_wp2
                  go_ret
                  exact ⟨rfl, hw⟩
                · rw [if_pos (by kernel_rfl)]
                  simp only [List.getElem_toArray, List.getElem_cons_succ, List.getElem_cons_zero]
                  refine wp_load_row 25 _ rfl (gH) rfl 25 (irow .u8 H) (0, 0) _ (rH) Tryd.underlying25 rfl (infok8 _ hHl) (hK _ _ ?_)
                  simp only [Act.put, List.setIfInBounds_toArray, List.set_cons_succ, List.set_cons_zero]
                  clear hK
                  refine wpAny_ready (rs := [6]) (fuel := 2) (by kernel_rfl) (by simp) (AllReady.cons rfl (fun K' hK => ?_) AllReady.nil)
                  rw [if_pos (by kernel_rfl)]
                  simp only [List.getElem_toArray, List.getElem_cons_succ, List.getElem_cons_zero]
                  refine wp_call_ex (f := 10) (by kernel_rfl) (ex1 (cK.out q50 (key ++ zr m) _ (kb64_zr key m (by omega)) (by rw [List.length_append, zr_len]; omega) f0 f4 (Bys.of_own oJ (by rw [List.length_append, zr_len]; omega) (both_bd zK (zr_bd m))) (own_cap oJ) hB)) (fun v_ q52 hX_ => hK _ _ ?_)
                  simp only [Act.put, List.setIfInBounds_toArray, List.set_cons_succ, List.set_cons_zero]
                  clear hK
                  obtain ⟨rfl, hb_⟩ := hX_
                  replace rH := keep hb_ rH
                  replace rz := keep hb_ rz
                  replace rB := keep hb_ rB
                  replace hKy := hKy.keep hb_
                  replace hB := hB.keep hb_
                  replace f0 := f0.below hb_
                  replace f4 := f4.below hb_
                  replace oJ := own_keep oJ hb_
                  replace hw := Below.after hw hb_
                  clear hb_
                  refine wpAny_take (i := 8) (v := ?v44) rfl (by kernel_rfl) (by kernel_rfl) (by kernel_rfl) (fun _ _ _ h => h) (Or.inl ⟨by rfl, ?y44⟩) ?r44
                  case y44 =>
                    intro w_
                    go_simp
                    try with_reducible rfl
                  simp only [Act.put, List.getElem_toArray, List.getElem_cons_succ, List.getElem_cons_zero, List.setIfInBounds_toArray, List.set_cons_succ, List.set_cons_zero]
                  refine wpAny_take (i := 9) (v := ?v45) rfl (by kernel_rfl) (by kernel_rfl) (by kernel_rfl) (fun _ _ _ h => h) (Or.inl ⟨by rfl, ?y45⟩) ?r45
                  case y45 =>
                    intro w_
                    go_simp
                    try with_reducible rfl
                  simp only [Act.put, List.getElem_toArray, List.getElem_cons_succ, List.getElem_cons_zero, List.setIfInBounds_toArray, List.set_cons_succ, List.set_cons_zero]
                  refine wpAny_done (by kernel_rfl) ?_ _
                  refine NoPanic.normal ?_
                  go_wp2
                  go_ret
                  exact ⟨rfl, hw⟩
              · rw [if_pos (by kernel_rfl)]
                simp only [List.getElem_toArray, List.getElem_cons_succ, List.getElem_cons_zero]
                refine wp_load_row 25 _ rfl (gH) rfl 25 (irow .u8 H) (0, 0) _ (rH) Tryd.underlying25 rfl (infok8 _ hHl) (hK _ _ ?_)
                simp only [Act.put, List.setIfInBounds_toArray, List.set_cons_succ, List.set_cons_zero]
                clear hK
                refine wpAny_ready (rs := [4]) (fuel := 3) (by kernel_rfl) (by simp) (AllReady.cons rfl (fun K' hK => ?_) AllReady.nil)
                rw [if_pos (by kernel_rfl)]
                simp only [List.getElem_toArray, List.getElem_cons_succ, List.getElem_cons_zero]
                refine wp_call_ex (f := 8) (by kernel_rfl) (l_joined [key, zr m] q48 _ (Pcs.two rB hKy.nb (NB.of_row rz (by rw [zr_len]; omega) (zr_bd m) m m (zr_len m))) (by simp [zr_len]; omega)) (fun v_ q53 hX_ => hK _ _ ?_)
                simp only [Act.put, List.setIfInBounds_toArray, List.set_cons_succ, List.set_cons_zero]
                clear hK
                obtain ⟨oJ, hb_⟩ := hX_
                replace rH := keep hb_ rH
                replace rz := keep hb_ rz
                replace rB := keep hb_ rB
                replace hKy := hKy.keep hb_
                replace hB := hB.keep hb_
                replace f0 := f0.below hb_
                replace f4 := f4.below hb_
                replace hw := Below.after hw hb_
                clear hb_
                rw [show [key, zr m].flatten = key ++ zr m by simp] at oJ
                refine wpAny_ready (rs := [6]) (fuel := 2) (by kernel_rfl) (by simp) (AllReady.cons rfl (fun K' hK => ?_) AllReady.nil)
                rw [if_pos (by kernel_rfl)]
                simp only [List.getElem_toArray, List.getElem_cons_succ, List.getElem_cons_zero]
                refine wp_call_ex (f := 10) (by kernel_rfl) (ex1 (cK.out q53 (key ++ zr m) _ (kb64_zr key m (by omega)) (by rw [List.length_append, zr_len]; omega) f0 f4 (Bys.of_own oJ (by rw [List.length_append, zr_len]; omega) (both_bd zK (zr_bd m))) (own_cap oJ) hB)) (fun v_ q54 hX_ => hK _ _ ?_)
                simp only [Act.put, List.setIfInBounds_toArray, List.set_cons_succ, List.set_cons_zero]
                clear hK
                obtain ⟨rfl, hb_⟩ := hX_
                replace rH := keep hb_ rH
                replace rz := keep hb_ rz
                replace rB := keep hb_ rB
                replace hKy := hKy.keep hb_
                replace hB := hB.keep hb_
                replace f0 := f0.below hb_
                replace f4 := f4.below hb_
                replace oJ := own_keep oJ hb_
                replace hw := Below.after hw hb_
                clear hb_
                refine wpAny_take (i := 8) (v := ?v46) rfl (by kernel_rfl) (by kernel_rfl) (by kernel_rfl) (fun _ _ _ h => h) (Or.inl ⟨by rfl, ?y46⟩) ?r46
                case y46 =>
                  intro w_
                  go_simp
                  try with_reducible rfl
                simp only [Act.put, List.getElem_toArray, List.getElem_cons_succ, List.getElem_cons_zero, List.setIfInBounds_toArray, List.set_cons_succ, List.set_cons_zero]
                refine wpAny_take (i := 9) (v := ?v47) rfl (by kernel_rfl) (by kernel_rfl) (by kernel_rfl) (fun _ _ _ h => h) (Or.inl ⟨by rfl, ?y47⟩) ?r47
                case y47 =>
                  intro w_
                  go_simp
                  try with_reducible rfl
                simp only [Act.put, List.getElem_toArray, List.getElem_cons_succ, List.getElem_cons_zero, List.setIfInBounds_toArray, List.set_cons_succ, List.set_cons_zero]
                refine wpAny_done (by kernel_rfl) ?_ _
                refine NoPanic.normal ?_
                go_wp2
                go_ret
                exact ⟨rfl, hw⟩
            · rw [if_pos (by kernel_rfl)]
              simp only [List.getElem_toArray, List.getElem_cons_succ, List.getElem_cons_zero]
              refine wp_load_row 25 _ rfl (gH) rfl 25 (irow .u8 H) (0, 0) _ (rH) Tryd.underlying25 rfl (infok8 _ hHl) (hK _ _ ?_)
              simp only [Act.put, List.setIfInBounds_toArray, List.set_cons_succ, List.set_cons_zero]
              clear hK
              refine wpAny_ready (rs := [3]) (fuel := 4) (by kernel_rfl) (by simp) (AllReady.cons rfl (fun K' hK => ?_) AllReady.nil)
              rw [if_pos (by kernel_rfl)]
              simp only [List.getElem_toArray, List.getElem_cons_succ, List.getElem_cons_zero]
              refine wp_world_op (.slice (some ⟨q46.heap.size, 0, none⟩) 2 2) (q46.alloc (.cells #[.slice uk key.length ukc, .slice (some ⟨g47, 0, none⟩) m m] 22)) (by kernel_rfl) (hK _ _ ?_)
              simp only [Act.put, List.setIfInBounds_toArray, List.set_cons_succ, List.set_cons_zero]
              clear hK
              have hb_ : Below q46.heap.size q46 (q46.alloc (.cells #[.slice uk key.length ukc, .slice (some ⟨g47, 0, none⟩) m m] 22)) := (Below.refl _ _).alloc (Nat.le_refl _) _
              have rB := hp1_0 q46 (.cells #[.slice uk key.length ukc, .slice (some ⟨g47, 0, none⟩) m m] 22)
              replace rH := keep hb_ rH
              replace rz := keep hb_ rz
              replace hKy := hKy.keep hb_
              replace hB := hB.keep hb_
              replace f0 := f0.below hb_
              replace f4 := f4.below hb_
              replace hw := Below.after hw hb_
              clear hb_
              generalize q46.alloc (.cells #[.slice uk key.length ukc, .slice (some ⟨g47, 0, none⟩) m m] 22) = q55 at *
              generalize q46.heap.size = g56 at *
              refine wpAny_ready (rs := [4]) (fuel := 3) (by kernel_rfl) (by simp) (AllReady.cons rfl (fun K' hK => ?_) AllReady.nil)
              rw [if_pos (by kernel_rfl)]
              simp only [List.getElem_toArray, List.getElem_cons_succ, List.getElem_cons_zero]
              refine wp_call_ex (f := 8) (by kernel_rfl) (l_joined [key, zr m] q55 _ (Pcs.two rB hKy.nb (NB.of_row rz (by rw [zr_len]; omega) (zr_bd m) m m (zr_len m))) (by simp [zr_len]; omega)) (fun v_ q57 hX_ => hK _ _ ?_)
              simp only [Act.put, List.setIfInBounds_toArray, List.set_cons_succ, List.set_cons_zero]
              clear hK
              obtain ⟨oJ, hb_⟩ := hX_
              replace rH := keep hb_ rH
              replace rz := keep hb_ rz
              replace rB := keep hb_ rB
              replace hKy := hKy.keep hb_
              replace hB := hB.keep hb_
              replace f0 := f0.below hb_
              replace f4 := f4.below hb_
              replace hw := Below.after hw hb_
              clear hb_
              rw [show [key, zr m].flatten = key ++ zr m by simp] at oJ
              refine wpAny_ready (rs := [6]) (fuel := 2) (by kernel_rfl) (by simp) (AllReady.cons rfl (fun K' hK => ?_) AllReady.nil)
              rw [if_pos (by kernel_rfl)]
              simp only [List.getElem_toArray, List.getElem_cons_succ, List.getElem_cons_zero]
              refine wp_call_ex (f := 10) (by kernel_rfl) (ex1 (cK.out q57 (key ++ zr m) _ (kb64_zr key m (by omega)) (by rw [List.length_append, zr_len]; omega) f0 f4 (Bys.of_own oJ (by rw [List.length_append, zr_len]; omega) (both_bd zK (zr_bd m))) (own_cap oJ) hB)) (fun v_ q58 hX_ => hK _ _ ?_)
              simp only [Act.put, List.setIfInBounds_toArray, List.set_cons_succ, List.set_cons_zero]
              clear hK
              obtain ⟨rfl, hb_⟩ := hX_
              replace rH := keep hb_ rH
              replace rz := keep hb_ rz
              replace rB := keep hb_ rB
              replace hKy := hKy.keep hb_
              replace hB := hB.keep hb_
              replace f0 := f0.below hb_
              replace f4 := f4.below hb_
              replace oJ := own_keep oJ hb_
              replace hw := Below.after hw hb_
              clear hb_
              refine wpAny_take (i := 8) (v := ?v48) rfl (by kernel_rfl) (by kernel_rfl) (by kernel_rfl) (fun _ _ _ h => h) (Or.inl ⟨by rfl, ?y48⟩) ?r48
              case y48 =>
                intro w_
                go_simp
                try with_reducible rfl
              simp only [Act.put, List.getElem_toArray, List.getElem_cons_succ, List.getElem_cons_zero, List.setIfInBounds_toArray, List.set_cons_succ, List.set_cons_zero]
              refine wpAny_take (i := 9) (v := ?v49) rfl (by kernel_rfl) (by kernel_rfl) (by kernel_rfl) (fun _ _ _ h => h) (Or.inl ⟨by rfl, ?y49⟩) ?r49
              case y49 =>
                intro w_
                go_simp
                try with_reducible rfl
              simp only [Act.put, List.getElem_toArray, List.getElem_cons_succ, List.getElem_cons_zero, List.setIfInBounds_toArray, List.set_cons_succ, List.set_cons_zero]
              refine wpAny_done (by kernel_rfl) ?_ _
              refine NoPanic.normal ?_
              go_wp2
              go_ret
              exact ⟨rfl, hw⟩
          · rw [if_pos (by kernel_rfl)]
            simp only [List.getElem_toArray, List.getElem_cons_succ, List.getElem_cons_zero]
            refine wp_load_row 25 _ rfl (gH) rfl 25 (irow .u8 H) (0, 0) _ (rH) Tryd.underlying25 rfl (infok8 _ hHl) (hK _ _ ?_)
            simp only [Act.put, List.setIfInBounds_toArray, List.set_cons_succ, List.set_cons_zero]
            clear hK
            refine wpAny_ready (rs := [2]) (fuel := 5) (by kernel_rfl) (by simp) (AllReady.cons rfl (fun K' hK => ?_) AllReady.nil)
            rw [if_pos (by kernel_rfl)]
            simp only [List.getElem_toArray, List.getElem_cons_succ, List.getElem_cons_zero]
            refine wp_world_op (.slice (some ⟨z0.heap.size, 0, none⟩) m m) (z0.alloc (.cells (irow .u8 (zr m)) 5)) (hx_make 22 _ _ rfl m rfl rfl z0 _ _ (make_i64 m (by omega) z0)) (hK _ _ ?_)
            simp only [Act.put, List.setIfInBounds_toArray, List.set_cons_succ, List.set_cons_zero]
            clear hK
            have hb_ : Below z0.heap.size z0 (z0.alloc (.cells (irow .u8 (zr m)) 5)) := (Below.refl _ _).alloc (Nat.le_refl _) _
            have rz := hp1_0 z0 (.cells (irow .u8 (zr m)) 5)
            replace rH := keep hb_ rH
            replace hKy := hKy.keep hb_
            replace hB := hB.keep hb_
            replace f0 := f0.below hb_
            replace f4 := f4.below hb_
            replace hw := Below.after hw hb_
            clear hb_
            generalize z0.alloc (.cells (irow .u8 (zr m)) 5) = q59 at *
            generalize z0.heap.size = g60 at *
            refine wpAny_ready (rs := [3]) (fuel := 4) (by kernel_rfl) (by simp) (AllReady.cons rfl (fun K' hK => ?_) AllReady.nil)
            rw [if_pos (by kernel_rfl)]
            simp only [List.getElem_toArray, List.getElem_cons_succ, List.getElem_cons_zero]
            refine wp_world_op (.slice (some ⟨q59.heap.size, 0, none⟩) 2 2) (q59.alloc (.cells #[.slice uk key.length ukc, .slice (some ⟨g60, 0, none⟩) m m] 22)) (by kernel_rfl) (hK _ _ ?_)
            simp only [Act.put, List.setIfInBounds_toArray, List.set_cons_succ, List.set_cons_zero]
            clear hK
            have hb_ : Below q59.heap.size q59 (q59.alloc (.cells #[.slice uk key.length ukc, .slice (some ⟨g60, 0, none⟩) m m] 22)) := (Below.refl _ _).alloc (Nat.le_refl _) _
            have rB := hp1_0 q59 (.cells #[.slice uk key.length ukc, .slice (some ⟨g60, 0, none⟩) m m] 22)
            replace rH := keep hb_ rH
            replace rz := keep hb_ rz
            replace hKy := hKy.keep hb_
            replace hB := hB.keep hb_
            replace f0 := f0.below hb_
            replace f4 := f4.below hb_
            replace hw := Below.after hw hb_
            clear hb_
            generalize q59.alloc (.cells #[.slice uk key.length ukc, .slice (some ⟨g60, 0, none⟩) m m] 22) = q61 at *
            generalize q59.heap.size = g62 at *
            refine wpAny_ready (rs := [4]) (fuel := 3) (by kernel_rfl) (by simp) (AllReady.cons rfl (fun K' hK => ?_) AllReady.nil)
            rw [if_pos (by kernel_rfl)]
            simp only [List.getElem_toArray, List.getElem_cons_succ, List.getElem_cons_zero]
            refine wp_call_ex (f := 8) (by kernel_rfl) (l_joined [key, zr m] q61 _ (Pcs.two rB hKy.nb (NB.of_row rz (by rw [zr_len]; omega) (zr_bd m) m m (zr_len m))) (by simp [zr_len]; omega)) (fun v_ q63 hX_ => hK _ _ ?_)
            simp only [Act.put, List.setIfInBounds_toArray, List.set_cons_succ, List.set_cons_zero]
            clear hK
            obtain ⟨oJ, hb_⟩ := hX_
            replace rH := keep hb_ rH
            replace rz := keep hb_ rz
            replace rB := keep hb_ rB
            replace hKy := hKy.keep hb_
            replace hB := hB.keep hb_
            replace f0 := f0.below hb_
            replace f4 := f4.below hb_
            replace hw := Below.after hw hb_
            clear hb_
            rw [show [key, zr m].flatten = key ++ zr m by simp] at oJ
            refine wpAny_ready (rs := [6]) (fuel := 2) (by kernel_rfl) (by simp) (AllReady.cons rfl (fun K' hK => ?_) AllReady.nil)
            rw [if_pos (by kernel_rfl)]
            simp only [List.getElem_toArray, List.getElem_cons_succ, List.getElem_cons_zero]
            refine wp_call_ex (f := 10) (by kernel_rfl) (ex1 (cK.out q63 (key ++ zr m) _ (kb64_zr key m (by omega)) (by rw [List.length_append, zr_len]; omega) f0 f4 (Bys.of_own oJ (by rw [List.length_append, zr_len]; omega) (both_bd zK (zr_bd m))) (own_cap oJ) hB)) (fun v_ q64 hX_ => hK _ _ ?_)
            simp only [Act.put, List.setIfInBounds_toArray, List.set_cons_succ, List.set_cons_zero]
            clear hK
            obtain ⟨rfl, hb_⟩ := hX_
            replace rH := keep hb_ rH
            replace rz := keep hb_ rz
            replace rB := keep hb_ rB
            replace hKy := hKy.keep hb_
            replace hB := hB.keep hb_
            replace f0 := f0.below hb_
            replace f4 := f4.below hb_
            replace oJ := own_keep oJ hb_
            replace hw := Below.after hw hb_
            clear hb_
            refine wpAny_take (i := 8) (v := ?v50) rfl (by kernel_rfl) (by kernel_rfl) (by kernel_rfl) (fun _ _ _ h => h) (Or.inl ⟨by rfl, ?y50⟩) ?r50
            case y50 =>
              intro w_
              go_simp
              try with_reducible rfl
            simp only [Act.put, List.getElem_toArray, List.getElem_cons_succ, List.getElem_cons_zero, List.setIfInBounds_toArray, List.set_cons_succ, List.set_cons_zero]
            refine wpAny_take (i := 9) (v := ?v51) rfl (by kernel_rfl) (by kernel_rfl) (by kernel_rfl) (fun _ _ _ h => h) (Or.inl ⟨by rfl, ?y51⟩) ?r51
            case y51 =>
              intro w_
              go_simp
              try with_reducible rfl
            simp only [Act.put, List.getElem_toArray, List.getElem_cons_succ, List.getElem_cons_zero, List.setIfInBounds_toArray, List.set_cons_succ, List.set_cons_zero]
            refine wpAny_done (by kernel_rfl) ?_ _
            refine NoPanic.normal ?_
            go_wp2
            go_ret
            exact ⟨rfl, hw⟩
  · rw [if_pos (by kernel_rfl)]
    simp only [List.getElem_toArray, List.getElem_cons_succ, List.getElem_cons_zero]
    refine wp_world_op (.slice (some ⟨wd.heap.size, 0, none⟩) 32 32) (wd.alloc (.cells (irow .u8 (zr 32)) 5)) (hx_make 22 _ _ rfl 32 rfl rfl wd _ _ (make_i64 32 (by decide) wd)) (hK _ _ ?_)
    simp only [Act.put, List.setIfInBounds_toArray, List.set_cons_succ, List.set_cons_zero]
    clear hK
    have hb_ : Below wd.heap.size wd (wd.alloc (.cells (irow .u8 (zr 32)) 5)) := (Below.refl _ _).alloc (Nat.le_refl _) _
    have rZ := hp1_0 wd (.cells (irow .u8 (zr 32)) 5)
    replace rH := keep hb_ rH
    replace hKy := hKy.keep hb_
    replace hB := hB.keep hb_
    replace f0 := f0.below hb_
    replace f4 := f4.below hb_
    replace hw := Below.after hw hb_
    clear hb_
    generalize wd.alloc (.cells (irow .u8 (zr 32)) 5) = q65 at *
    generalize wd.heap.size = g66 at *
    rw [← eE2.out] at rZ
    refine wpAny_ready (rs := [1]) (fuel := 6) (by kernel_rfl) (by simp) (AllReady.cons rfl (fun K' hK => ?_) AllReady.nil)
    rw [if_pos (by kernel_rfl)]
    simp only [List.getElem_toArray, List.getElem_cons_succ, List.getElem_cons_zero]
    refine wp_call_ex (f := 12) (by kernel_rfl) (ex1 (cE1.out q65 f0 f4 hB)) (fun v_ q67 hX_ => hK _ _ ?_)
    simp only [Act.put, List.setIfInBounds_toArray, List.set_cons_succ, List.set_cons_zero]
    clear hK
    obtain ⟨rfl, hb_⟩ := hX_
    replace rH := keep hb_ rH
    replace rZ := keep hb_ rZ
    replace hKy := hKy.keep hb_
    replace hB := hB.keep hb_
    replace f0 := f0.below hb_
    replace f4 := f4.below hb_
    replace hw := Below.after hw hb_
    clear hb_
    refine wpAny_ready (rs := [4]) (fuel := 5) (by kernel_rfl) (by simp) (AllReady.cons rfl (fun K' hK => ?_) AllReady.nil)
    rw [if_pos (by kernel_rfl)]
    simp only [List.getElem_toArray, List.getElem_cons_succ, List.getElem_cons_zero]
    refine wp_call_ex (f := 12) (by kernel_rfl) (ex1 (cE2.out q67 _ f0 f4 (Bys.of_rowN rZ (by omega) zE2 lE2) (fun a l c h => by cases h; exact Nat.le_refl _) hB)) (fun v_ q68 hX_ => hK _ _ ?_)
    simp only [Act.put, List.setIfInBounds_toArray, List.set_cons_succ, List.set_cons_zero]
    clear hK
    obtain ⟨rfl, hb_⟩ := hX_
    replace rH := keep hb_ rH
    replace rZ := keep hb_ rZ
    replace hKy := hKy.keep hb_
    replace hB := hB.keep hb_
    replace f0 := f0.below hb_
    replace f4 := f4.below hb_
    replace hw := Below.after hw hb_
    clear hb_
    refine wpAny_take (i := 5) (v := ?v52) rfl (by kernel_rfl) (by kernel_rfl) (by kernel_rfl) (fun _ _ _ h => h) (Or.inl ⟨by rfl, ?y52⟩) ?r52
    case y52 =>
      intro w_
      go_simp
      try with_reducible rfl
    simp only [Act.put, List.getElem_toArray, List.getElem_cons_succ, List.getElem_cons_zero, List.setIfInBounds_toArray, List.set_cons_succ, List.set_cons_zero]
    refine wpAny_take (i := 6) (v := ?v53) rfl (by kernel_rfl) (by kernel_rfl) (by kernel_rfl) (fun _ _ _ h => h) (Or.inl ⟨by rfl, ?y53⟩) ?r53
    case y53 =>
      intro w_
      go_simp
      try with_reducible rfl
    simp only [Act.put, List.getElem_toArray, List.getElem_cons_succ, List.getElem_cons_zero, List.setIfInBounds_toArray, List.set_cons_succ, List.set_cons_zero]
    refine wpAny_ready (rs := [7]) (fuel := 2) (by kernel_rfl) (by simp) (AllReady.cons rfl (fun K' hK => ?_) AllReady.nil)
    rw [if_pos (by kernel_rfl)]
    simp only [List.getElem_toArray, List.getElem_cons_succ, List.getElem_cons_zero]
    refine wp_call_ex (f := 11) (by kernel_rfl) (ex1 (vec_any q68 f0 f4)) (fun v_ q69 hX_ => hK _ _ ?_)
    simp only [Act.put, List.setIfInBounds_toArray, List.set_cons_succ, List.set_cons_zero]
    clear hK
    obtain ⟨rfl, hb_⟩ := hX_
    replace rH := keep hb_ rH
    replace rZ := keep hb_ rZ
    replace hKy := hKy.keep hb_
    replace hB := hB.keep hb_
    replace f0 := f0.below hb_
    replace f4 := f4.below hb_
    replace hw := Below.after hw hb_
    clear hb_
    refine wpAny_take (i := 8) (v := ?v54) rfl (by kernel_rfl) (by kernel_rfl) (by kernel_rfl) (fun _ _ _ h => h) (Or.inl ⟨by rfl, ?y54⟩) ?r54
    case y54 =>
      intro w_
      go_simp
      try with_reducible rfl
    simp only [Act.put, List.getElem_toArray, List.getElem_cons_succ, List.getElem_cons_zero, List.setIfInBounds_toArray, List.set_cons_succ, List.set_cons_zero]
    refine wpAny_take (i := 9) (v := ?v55) rfl (by kernel_rfl) (by kernel_rfl) (by kernel_rfl) (fun _ _ _ h => h) (Or.inl ⟨by rfl, ?y55⟩) ?r55
    case y55 =>
      intro w_
      go_simp
      try with_reducible rfl
    simp only [Act.put, List.getElem_toArray, List.getElem_cons_succ, List.getElem_cons_zero, List.setIfInBounds_toArray, List.set_cons_succ, List.set_cons_zero]
    refine wpAny_done (by kernel_rfl) ?_ _
    refine NoPanic.normal ?_
    clear rZ
    by_cases hl : 64 < key.length
    · have hd : decide ((64 : Int) < (key.length : Int)) = true := decide_eq_true (by omega)
      have hks : kb64 (sumL key) = kb64 key := by
        have h := kb64_sh key
        rw [ksh, if_pos hl] at h
        exact h
      replace hks := hide hks
      have hSl := sumL_len key
      have hSz := sumL_bd key
      have cS := a_sum key q69 _ f0 f4 hKy.1 qK (by omega)
      generalize sumL key = KS at *
      go_wp2_with (fail)
      refine cS.mono ?_
      rintro e_ y1 ⟨rfl, hb⟩
      replace rH := keep hb rH
      replace hKy := hKy.keep hb
      replace hB := hB.keep hb
      replace f0 := f0.below hb
      replace f4 := f4.below hb
      replace hw := Below.after hw hb
      clear hb cS
      have r8 := hp1_0 y1 (.cells (irow .u8 KS) 25)
      have hba : Below y1.heap.size y1 (y1.alloc (.cells (irow .u8 KS) 25)) := (Below.refl _ _).alloc (Nat.le_refl _) _
      replace rH := keep hba rH
      replace hKy := hKy.keep hba
      replace hB := hB.keep hba
      replace f0 := f0.below hba
      replace f4 := f4.below hba
      replace hw := Below.after hw hba
      clear hba
      have sk2 := slice_k
      go_wp2_with (first | (refine wpList_alloc rfl 25 rfl (irow .u8 (zr 32)) zkey ?_) | (refine wpList_store_row rfl 25 _ _ rfl (y1.heap.size) (irow .u8 KS) rfl rfl 25 _ (hp1_0 y1 _) (infok8 _ hSl) (fit32 _ _ (zr_len 32) hSl) (irow_one _ _) ?_; rw [setRow_alloc_new _ _ _ _ _ _ rfl]) | fail)
      generalize y1.alloc (.cells (irow .u8 KS) 25) = y2 at *
      generalize y1.heap.size = g8 at *
      have hbd : Below y2.heap.size y2 y2.drew := below_drN (Below.refl _ _) 1
      replace rH := keep hbd rH
      replace r8 := keep hbd r8
      replace hKy := hKy.keep hbd
      replace hB := hB.keep hbd
      replace f0 := f0.below hbd
      replace f4 := f4.below hbd
      replace hw := Below.after hw hbd
      clear hbd
      refine wp_region_noPanic ?_
      refine wp_region_any (by kernel_rfl) ?_
      change wpAny _ _ _ _ _ _ _ (World.drew _)
      generalize y2.drew = z0 at *
      refine wpAny_take (i := 0) (v := ?v56) rfl (by kernel_rfl) (by kernel_rfl) (by kernel_rfl) (fun _ _ _ h => h) (Or.inl ⟨by rfl, ?y56⟩) ?r56
      case y56 =>
        intro w_
        go_simp
        try with_reducible rfl
      simp only [Act.put, List.getElem_toArray, List.getElem_cons_zero, List.setIfInBounds_toArray, List.set_cons_succ, List.set_cons_zero]
      refine wpAny_take (i := 1) (v := ?v57) rfl (by kernel_rfl) (by kernel_rfl) (by kernel_rfl) (fun _ _ _ h => h) (Or.inl ⟨by rfl, ?y57⟩) ?r57
      case y57 =>
        intro w_
        go_simp
        try with_reducible rfl
      simp only [Act.put, List.getElem_toArray, List.getElem_cons_succ, List.getElem_cons_zero, List.setIfInBounds_toArray, List.set_cons_succ, List.set_cons_zero]
      refine wpAny_ready (rs := [2, 3]) (fuel := 3) (by kernel_rfl) (by simp) (AllReady.cons rfl (fun K' hK => ?_) (AllReady.cons rfl (fun K' hK => ?_) AllReady.nil))
      · rw [if_pos (by kernel_rfl)]
        simp only [List.getElem_toArray, List.getElem_cons_succ, List.getElem_cons_zero]
        refine wp_call_ex (f := 10) (by kernel_rfl) (ex1 (cK.out z0 KS _ hks.out (by omega) f0 f4 (Bys.of_rowN r8 (by omega) hSz hSl) (fun a l c h => by cases h; exact Nat.le_refl _) hB)) (fun v_ q70 hX_ => hK _ _ ?_)
        simp only [Act.put, List.setIfInBounds_toArray, List.set_cons_succ, List.set_cons_zero]
        clear hK
        obtain ⟨rfl, hb_⟩ := hX_
        replace rH := keep hb_ rH
        replace r8 := keep hb_ r8
        replace hKy := hKy.keep hb_
        replace hB := hB.keep hb_
        replace f0 := f0.below hb_
        replace f4 := f4.below hb_
        replace hw := Below.after hw hb_
        clear hb_
        refine wpAny_ready (rs := [3]) (fuel := 2) (by kernel_rfl) (by simp) (AllReady.cons rfl (fun K' hK => ?_) AllReady.nil)
        rw [if_pos (by kernel_rfl)]
        simp only [List.getElem_toArray, List.getElem_cons_succ, List.getElem_cons_zero]
        refine wp_load_row 25 _ rfl (gH) rfl 25 (irow .u8 H) (0, 0) _ (rH) Tryd.underlying25 rfl (infok8 _ hHl) (hK _ _ ?_)
        simp only [Act.put, List.setIfInBounds_toArray, List.set_cons_succ, List.set_cons_zero]
        clear hK
        refine wpAny_take (i := 4) (v := ?v58) rfl (by kernel_rfl) (by kernel_rfl) (by kernel_rfl) (fun _ _ _ h => h) (Or.inl ⟨by rfl, ?y58⟩) ?r58
        case y58 =>
          intro w_
          go_simp
          try with_reducible rfl
        simp only [Act.put, List.getElem_toArray, List.getElem_cons_succ, List.getElem_cons_zero, List.setIfInBounds_toArray, List.set_cons_succ, List.set_cons_zero]
        refine wpAny_take (i := 5) (v := ?v59) rfl (by kernel_rfl) (by kernel_rfl) (by kernel_rfl) (fun _ _ _ h => h) (Or.inl ⟨by rfl, ?y59⟩) ?r59
        case y59 =>
          intro w_
          go_simp
          try with_reducible rfl
        simp only [Act.put, List.getElem_toArray, List.getElem_cons_succ, List.getElem_cons_zero, List.setIfInBounds_toArray, List.set_cons_succ, List.set_cons_zero]
        refine wpAny_done (by kernel_rfl) ?_ _
        refine NoPanic.normal ?_
        go_wp2
        go_ret
        exact ⟨rfl, hw⟩
      · rw [if_pos (by kernel_rfl)]
        simp only [List.getElem_toArray, List.getElem_cons_succ, List.getElem_cons_zero]
        refine wp_load_row 25 _ rfl (gH) rfl 25 (irow .u8 H) (0, 0) _ (rH) Tryd.underlying25 rfl (infok8 _ hHl) (hK _ _ ?_)
        simp only [Act.put, List.setIfInBounds_toArray, List.set_cons_succ, List.set_cons_zero]
        clear hK
        refine wpAny_ready (rs := [2]) (fuel := 2) (by kernel_rfl) (by simp) (AllReady.cons rfl (fun K' hK => ?_) AllReady.nil)
        rw [if_pos (by kernel_rfl)]
        simp only [List.getElem_toArray, List.getElem_cons_succ, List.getElem_cons_zero]
        refine wp_call_ex (f := 10) (by kernel_rfl) (ex1 (cK.out z0 KS _ hks.out (by omega) f0 f4 (Bys.of_rowN r8 (by omega) hSz hSl) (fun a l c h => by cases h; exact Nat.le_refl _) hB)) (fun v_ q71 hX_ => hK _ _ ?_)
        simp only [Act.put, List.setIfInBounds_toArray, List.set_cons_succ, List.set_cons_zero]
        clear hK
        obtain ⟨rfl, hb_⟩ := hX_
        replace rH := keep hb_ rH
        replace r8 := keep hb_ r8
        replace hKy := hKy.keep hb_
        replace hB := hB.keep hb_
        replace f0 := f0.below hb_
        replace f4 := f4.below hb_
        replace hw := Below.after hw hb_
        clear hb_
        refine wpAny_take (i := 4) (v := ?v60) rfl (by kernel_rfl) (by kernel_rfl) (by kernel_rfl) (fun _ _ _ h => h) (Or.inl ⟨by rfl, ?y60⟩) ?r60
        case y60 =>
          intro w_
          go_simp
          try with_reducible rfl
        simp only [Act.put, List.getElem_toArray, List.getElem_cons_succ, List.getElem_cons_zero, List.setIfInBounds_toArray, List.set_cons_succ, List.set_cons_zero]
        refine wpAny_take (i := 5) (v := ?v61) rfl (by kernel_rfl) (by kernel_rfl) (by kernel_rfl) (fun _ _ _ h => h) (Or.inl ⟨by rfl, ?y61⟩) ?r61
        case y61 =>
          intro w_
          go_simp
          try with_reducible rfl
        simp only [Act.put, List.getElem_toArray, List.getElem_cons_succ, List.getElem_cons_zero, List.setIfInBounds_toArray, List.set_cons_succ, List.set_cons_zero]
        refine wpAny_done (by kernel_rfl) ?_ _
        refine NoPanic.normal ?_
        go_wp2
        go_ret
        exact ⟨rfl, hw⟩
    · have hd : decide ((64 : Int) < (key.length : Int)) = false := decide_eq_false (by omega)
      by_cases hn : n < 0
      · have hd1 : decide (n < 0) = true := decide_eq_true hn
        obtain ⟨m, em⟩ : ∃ m : Nat, m = 64 - key.length := ⟨_, rfl⟩
        have em2 : (64 : Int) - (key.length : Int) = (m : Int) := by omega
        have hm64 : key.length + m ≤ 64 := by omega
        clear em
        go_wp2
        have hbd : Below q69.heap.size q69 q69.drew := below_drN (Below.refl _ _) 1
        replace rH := keep hbd rH
        replace hKy := hKy.keep hbd
        replace hB := hB.keep hbd
        replace f0 := f0.below hbd
        replace f4 := f4.below hbd
        replace hw := Below.after hw hbd
        clear hbd
        refine wp_region_noPanic ?_
        refine wp_region_any (by kernel_rfl) ?_
        change wpAny _ _ _ _ _ _ _ (World.drew _)
        generalize q69.drew = z0 at *
        refine wpAny_take (i := 0) (v := ?v62) rfl (by kernel_rfl) (by kernel_rfl) (by kernel_rfl) (fun _ _ _ h => h) (Or.inl ⟨by rfl, ?y62⟩) ?r62
        case y62 =>
          intro w_
          go_simp
          try with_reducible rfl
        simp only [Act.put, List.getElem_toArray, List.getElem_cons_zero, List.setIfInBounds_toArray, List.set_cons_succ, List.set_cons_zero]
        refine wpAny_take (i := 1) (v := ?v63) rfl (by kernel_rfl) (by kernel_rfl) (by kernel_rfl) (fun _ _ _ h => h) (Or.inl ⟨by rfl, ?y63⟩) ?r63
        case y63 =>
          intro w_
          go_simp
          try with_reducible rfl
        simp only [Act.put, List.getElem_toArray, List.getElem_cons_succ, List.getElem_cons_zero, List.setIfInBounds_toArray, List.set_cons_succ, List.set_cons_zero]
        refine wpAny_take (i := 5) (v := ?v64) rfl (by kernel_rfl) (by kernel_rfl) (by kernel_rfl) (fun _ _ _ h => h) (Or.inl ⟨by rfl, ?y64⟩) ?r64
        case y64 =>
          intro w_
          go_simp
          try with_reducible rfl
        simp only [Act.put, List.getElem_toArray, List.getElem_cons_succ, List.getElem_cons_zero, List.setIfInBounds_toArray, List.set_cons_succ, List.set_cons_zero]
        refine wpAny_ready (rs := [2, 7]) (fuel := 6) (by kernel_rfl) (by simp) (AllReady.cons rfl (fun K' hK => ?_) (AllReady.cons rfl (fun K' hK => ?_) AllReady.nil))
        · rw [if_pos (by kernel_rfl)]
          simp only [List.getElem_toArray, List.getElem_cons_succ, List.getElem_cons_zero]
          refine wp_world_op (.slice (some ⟨z0.heap.size, 0, none⟩) m m) (z0.alloc (.cells (irow .u8 (zr m)) 5)) (hx_make 22 _ _ rfl m rfl rfl z0 _ _ (make_i64 m (by omega) z0)) (hK _ _ ?_)
          simp only [Act.put, List.setIfInBounds_toArray, List.set_cons_succ, List.set_cons_zero]
          clear hK
          have hb_ : Below z0.heap.size z0 (z0.alloc (.cells (irow .u8 (zr m)) 5)) := (Below.refl _ _).alloc (Nat.le_refl _) _
          have rz := hp1_0 z0 (.cells (irow .u8 (zr m)) 5)
          replace rH := keep hb_ rH
          replace hKy := hKy.keep hb_
          replace hB := hB.keep hb_
          replace f0 := f0.below hb_
          replace f4 := f4.below hb_
          replace hw := Below.after hw hb_
          clear hb_
          generalize z0.alloc (.cells (irow .u8 (zr m)) 5) = q72 at *
          generalize z0.heap.size = g73 at *
          refine wpAny_ready (rs := [3, 7]) (fuel := 5) (by kernel_rfl) (by simp) (AllReady.cons rfl (fun K' hK => ?_) (AllReady.cons rfl (fun K' hK => ?_) AllReady.nil))
          · rw [if_pos (by kernel_rfl)]
            simp only [List.getElem_toArray, List.getElem_cons_succ, List.getElem_cons_zero]
            refine wp_world_op (.slice (some ⟨q72.heap.size, 0, none⟩) 2 2) (q72.alloc (.cells #[.slice uk key.length ukc, .slice (some ⟨g73, 0, none⟩) m m] 22)) (by kernel_rfl) (hK _ _ ?_)
            simp only [Act.put, List.setIfInBounds_toArray, List.set_cons_succ, List.set_cons_zero]
            clear hK
            have hb_ : Below q72.heap.size q72 (q72.alloc (.cells #[.slice uk key.length ukc, .slice (some ⟨g73, 0, none⟩) m m] 22)) := (Below.refl _ _).alloc (Nat.le_refl _) _
            have rB := hp1_0 q72 (.cells #[.slice uk key.length ukc, .slice (some ⟨g73, 0, none⟩) m m] 22)
            replace rH := keep hb_ rH
            replace rz := keep hb_ rz
            replace hKy := hKy.keep hb_
            replace hB := hB.keep hb_
            replace f0 := f0.below hb_
            replace f4 := f4.below hb_
            replace hw := Below.after hw hb_
            clear hb_
            generalize q72.alloc (.cells #[.slice uk key.length ukc, .slice (some ⟨g73, 0, none⟩) m m] 22) = q74 at *
            generalize q72.heap.size = g75 at *
            refine wpAny_ready (rs := [4, 7]) (fuel := 4) (by kernel_rfl) (by simp) (AllReady.cons rfl (fun K' hK => ?_) (AllReady.cons rfl (fun K' hK => ?_) AllReady.nil))
            · rw [if_pos (by kernel_rfl)]
              simp only [List.getElem_toArray, List.getElem_cons_succ, List.getElem_cons_zero]
              refine wp_call_ex (f := 8) (by kernel_rfl) (l_joined [key, zr m] q74 _ (Pcs.two rB hKy.nb (NB.of_row rz (by rw [zr_len]; omega) (zr_bd m) m m (zr_len m))) (by simp [zr_len]; omega)) (fun v_ q76 hX_ => hK _ _ ?_)
              simp only [Act.put, List.setIfInBounds_toArray, List.set_cons_succ, List.set_cons_zero]
              clear hK
              obtain ⟨oJ, hb_⟩ := hX_
              replace rH := keep hb_ rH
              replace rz := keep hb_ rz
              replace rB := keep hb_ rB
              replace hKy := hKy.keep hb_
              replace hB := hB.keep hb_
              replace f0 := f0.below hb_
              replace f4 := f4.below hb_
              replace hw := Below.after hw hb_
              clear hb_
              rw [show [key, zr m].flatten = key ++ zr m by simp] at oJ
              refine wpAny_ready (rs := [6, 7]) (fuel := 3) (by kernel_rfl) (by simp) (AllReady.cons rfl (fun K' hK => ?_) (AllReady.cons rfl (fun K' hK => ?_) AllReady.nil))
              · rw [if_pos (by kernel_rfl)]
                simp only [List.getElem_toArray, List.getElem_cons_succ, List.getElem_cons_zero]
                refine wp_call_ex (f := 10) (by kernel_rfl) (ex1 (cK.out q76 (key ++ zr m) _ (kb64_zr key m (by omega)) (by rw [List.length_append, zr_len]; omega) f0 f4 (Bys.of_own oJ (by rw [List.length_append, zr_len]; omega) (both_bd zK (zr_bd m))) (own_cap oJ) hB)) (fun v_ q77 hX_ => hK _ _ ?_)
                simp only [Act.put, List.setIfInBounds_toArray, List.set_cons_succ, List.set_cons_zero]
                clear hK
                obtain ⟨rfl, hb_⟩ := hX_
                replace rH := keep hb_ rH
                replace rz := keep hb_ rz
                replace rB := keep hb_ rB
                replace hKy := hKy.keep hb_
                replace hB := hB.keep hb_
                replace f0 := f0.below hb_
                replace f4 := f4.below hb_
                replace oJ := own_keep oJ hb_
                replace hw := Below.after hw hb_
                clear hb_
                refine wpAny_ready (rs := [7]) (fuel := 2) (by kernel_rfl) (by simp) (AllReady.cons rfl (fun K' hK => ?_) AllReady.nil)
                rw [if_pos (by kernel_rfl)]
                simp only [List.getElem_toArray, List.getElem_cons_succ, List.getElem_cons_zero]
                refine wp_load_row 25 _ rfl (gH) rfl 25 (irow .u8 H) (0, 0) _ (rH) Tryd.underlying25 rfl (infok8 _ hHl) (hK _ _ ?_)
                simp only [Act.put, List.setIfInBounds_toArray, List.set_cons_succ, List.set_cons_zero]
                clear hK
                refine wpAny_take (i := 8) (v := ?v65) rfl (by kernel_rfl) (by kernel_rfl) (by kernel_rfl) (fun _ _ _ h => h) (Or.inl ⟨by rfl, ?y65⟩) ?r65
                case y65 =>
                  intro w_
                  go_simp
                  try with_reducible rfl
                simp only [Act.put, List.getElem_toArray, List.getElem_cons_succ, List.getElem_cons_zero, List.setIfInBounds_toArray, List.set_cons_succ, List.set_cons_zero]
                refine wpAny_take (i := 9) (v := ?v66) rfl (by kernel_rfl) (by kernel_rfl) (by kernel_rfl) (fun _ _ _ h => h) (Or.inl ⟨by rfl, ?y66⟩) ?r66
                case y66 =>
                  intro w_
                  go_simp
                  try with_reducible rfl
                simp only [Act.put, List.getElem_toArray, List.getElem_cons_succ, List.getElem_cons_zero, List.setIfInBounds_toArray, List.set_cons_succ, List.set_cons_zero]
                refine wpAny_done (by kernel_rfl) ?_ _
                refine NoPanic.normal ?_
                go_wp2
                go_ret
                exact ⟨rfl, hw⟩
              · rw [if_pos (by kernel_rfl)]
                simp only [List.getElem_toArray, List.getElem_cons_succ, List.getElem_cons_zero]
                refine wp_load_row 25 _ rfl (gH) rfl 25 (irow .u8 H) (0, 0) _ (rH) Tryd.underlying25 rfl (infok8 _ hHl) (hK _ _ ?_)
                simp only [Act.put, List.setIfInBounds_toArray, List.set_cons_succ, List.set_cons_zero]
                clear hK
                refine wpAny_ready (rs := [6]) (fuel := 2) (by kernel_rfl) (by simp) (AllReady.cons rfl (fun K' hK => ?_) AllReady.nil)
                rw [if_pos (by kernel_rfl)]
                simp only [List.getElem_toArray, List.getElem_cons_succ, List.getElem_cons_zero]
                refine wp_call_ex (f := 10) (by kernel_rfl) (ex1 (cK.out q76 (key ++ zr m) _ (kb64_zr key m (by omega)) (by rw [List.length_append, zr_len]; omega) f0 f4 (Bys.of_own oJ (by rw [List.length_append, zr_len]; omega) (both_bd zK (zr_bd m))) (own_cap oJ) hB)) (fun v_ q78 hX_ => hK _ _ ?_)
                simp only [Act.put, List.setIfInBounds_toArray, List.set_cons_succ, List.set_cons_zero]
                clear hK
                obtain ⟨rfl, hb_⟩ := hX_
                replace rH := keep hb_ rH
                replace rz := keep hb_ rz
                replace rB := keep hb_ rB
                replace hKy := hKy.keep hb_
                replace hB := hB.keep hb_
                replace f0 := f0.below hb_
                replace f4 := f4.below hb_
                replace oJ := own_keep oJ hb_
                replace hw := Below.after hw hb_
                clear hb_
                refine wpAny_take (i := 8) (v := ?v67) rfl (by kernel_rfl) (by kernel_rfl) (by kernel_rfl) (fun _ _ _ h => h) (Or.inl ⟨by rfl, ?y67⟩) ?r67
                case y67 =>
                  intro w_
                  go_simp
                  try with_reducible rfl
                simp only [Act.put, List.getElem_toArray, List.getElem_cons_succ, List.getElem_cons_zero, List.setIfInBounds_toArray, List.set_cons_succ, List.set_cons_zero]
                refine wpAny_take (i := 9) (v := ?v68) rfl (by kernel_rfl) (by kernel_rfl) (by kernel_rfl) (fun _ _ _ h => h) (Or.inl ⟨by rfl, ?y68⟩) ?r68
                case y68 =>
                  intro w_
                  go_simp
                  try with_reducible rfl
                simp only [Act.put, List.getElem_toArray, List.getElem_cons_succ, List.getElem_cons_zero, List.setIfInBounds_toArray, List.set_cons_succ, List.set_cons_zero]
                refine wpAny_done (by kernel_rfl) ?_ _
                refine NoPanic.normal ?_
                go_wp2
                go_ret
                exact ⟨rfl, hw⟩
            · rw [if_pos (by kernel_rfl)]
              simp only [List.getElem_toArray, List.getElem_cons_succ, List.getElem_cons_zero]
              refine wp_load_row 25 _ rfl (gH) rfl 25 (irow .u8 H) (0, 0) _ (rH) Tryd.underlying25 rfl (infok8 _ hHl) (hK _ _ ?_)
              simp only [Act.put, List.setIfInBounds_toArray, List.set_cons_succ, List.set_cons_zero]
              clear hK
              refine wpAny_ready (rs := [4]) (fuel := 3) (by kernel_rfl) (by simp) (AllReady.cons rfl (fun K' hK => ?_) AllReady.nil)
              rw [if_pos (by kernel_rfl)]
              simp only [List.getElem_toArray, List.getElem_cons_succ, List.getElem_cons_zero]
              refine wp_call_ex (f := 8) (by kernel_rfl) (l_joined [key, zr m] q74 _ (Pcs.two rB hKy.nb (NB.of_row rz (by rw [zr_len]; omega) (zr_bd m) m m (zr_len m))) (by simp [zr_len]; omega)) (fun v_ q79 hX_ => hK _ _ ?_)
              simp only [Act.put, List.setIfInBounds_toArray, List.set_cons_succ, List.set_cons_zero]
              clear hK
              obtain ⟨oJ, hb_⟩ := hX_
              replace rH := keep hb_ rH
              replace rz := keep hb_ rz
              replace rB := keep hb_ rB
              replace hKy := hKy.keep hb_
              replace hB := hB.keep hb_
              replace f0 := f0.below hb_
              replace f4 := f4.below hb_
              replace hw := Below.after hw hb_
              clear hb_
              rw [show [key, zr m].flatten = key ++ zr m by simp] at oJ
              refine wpAny_ready (rs := [6]) (fuel := 2) (by kernel_rfl) (by simp) (AllReady.cons rfl (fun K' hK => ?_) AllReady.nil)
              rw [if_pos (by kernel_rfl)]
              simp only [List.getElem_toArray, List.getElem_cons_succ, List.getElem_cons_zero]
              refine wp_call_ex (f := 10) (by kernel_rfl) (ex1 (cK.out q79 (key ++ zr m) _ (kb64_zr key m (by omega)) (by rw [List.length_append, zr_len]; omega) f0 f4 (Bys.of_own oJ (by rw [List.length_append, zr_len]; omega) (both_bd zK (zr_bd m))) (own_cap oJ) hB)) (fun v_ q80 hX_ => hK _ _ ?_)
              simp only [Act.put, List.setIfInBounds_toArray, List.set_cons_succ, List.set_cons_zero]
              clear hK
              obtain ⟨rfl, hb_⟩ := hX_
              replace rH := keep hb_ rH
              replace rz := keep hb_ rz
              replace rB := keep hb_ rB
              replace hKy := hKy.keep hb_
              replace hB := hB.keep hb_
              replace f0 := f0.below hb_
              replace f4 := f4.below hb_
              replace oJ := own_keep oJ hb_
              replace hw := Below.after hw hb_
              clear hb_
              refine wpAny_take (i := 8) (v := ?v69) rfl (by kernel_rfl) (by kernel_rfl) (by kernel_rfl) (fun _ _ _ h => h) (Or.inl ⟨by rfl, ?y69⟩) ?r69
              case y69 =>
                intro w_
                go_simp
                try with_reducible rfl
              simp only [Act.put, List.getElem_toArray, List.getElem_cons_succ, List.getElem_cons_zero, List.setIfInBounds_toArray, List.set_cons_succ, List.set_cons_zero]
              refine wpAny_take (i := 9) (v := ?v70) rfl (by kernel_rfl) (by kernel_rfl) (by kernel_rfl) (fun _ _ _ h => h) (Or.inl ⟨by rfl, ?y70⟩) ?r70
              case y70 =>
                intro w_
                go_simp
                try with_reducible rfl
              simp only [Act.put, List.getElem_toArray, List.getElem_cons_succ, List.getElem_cons_zero, List.setIfInBounds_toArray, List.set_cons_succ, List.set_cons_zero]
              refine wpAny_done (by kernel_rfl) ?_ _
              refine NoPanic.normal ?_
              go_wp2
              go_ret
              exact ⟨rfl, hw⟩
          · rw [if_pos (by kernel_rfl)]
            simp only [List.getElem_toArray, List.getElem_cons_succ, List.getElem_cons_zero]
            refine wp_load_row 25 _ rfl (gH) rfl 25 (irow .u8 H) (0, 0) _ (rH) Tryd.underlying25 rfl (infok8 _ hHl) (hK _ _ ?_)
            simp only [Act.put, List.setIfInBounds_toArray, List.set_cons_succ, List.set_cons_zero]
            clear hK
            refine wpAny_ready (rs := [3]) (fuel := 4) (by kernel_rfl) (by simp) (AllReady.cons rfl (fun K' hK => ?_) AllReady.nil)
            rw [if_pos (by kernel_rfl)]
            simp only [List.getElem_toArray, List.getElem_cons_succ, List.getElem_cons_zero]
            refine wp_world_op (.slice (some ⟨q72.heap.size, 0, none⟩) 2 2) (q72.alloc (.cells #[.slice uk key.length ukc, .slice (some ⟨g73, 0, none⟩) m m] 22)) (by kernel_rfl) (hK _ _ ?_)
            simp only [Act.put, List.setIfInBounds_toArray, List.set_cons_succ, List.set_cons_zero]
            clear hK
            have hb_ : Below q72.heap.size q72 (q72.alloc (.cells #[.slice uk key.length ukc, .slice (some ⟨g73, 0, none⟩) m m] 22)) := (Below.refl _ _).alloc (Nat.le_refl _) _
            have rB := hp1_0 q72 (.cells #[.slice uk key.length ukc, .slice (some ⟨g73, 0, none⟩) m m] 22)
            replace rH := keep hb_ rH
            replace rz := keep hb_ rz
            replace hKy := hKy.keep hb_
            replace hB := hB.keep hb_
            replace f0 := f0.below hb_
            replace f4 := f4.below hb_
            replace hw := Below.after hw hb_
            clear hb_
            generalize q72.alloc (.cells #[.slice uk key.length ukc, .slice (some ⟨g73, 0, none⟩) m m] 22) = q81 at *
            generalize q72.heap.size = g82 at *
            refine wpAny_ready (rs := [4]) (fuel := 3) (by kernel_rfl) (by simp) (AllReady.cons rfl (fun K' hK => ?_) AllReady.nil)
            rw [if_pos (by kernel_rfl)]
            simp only [List.getElem_toArray, List.getElem_cons_succ, List.getElem_cons_zero]
            refine wp_call_ex (f := 8) (by kernel_rfl) (l_joined [key, zr m] q81 _ (Pcs.two rB hKy.nb (NB.of_row rz (by rw [zr_len]; omega) (zr_bd m) m m (zr_len m))) (by simp [zr_len]; omega)) (fun v_ q83 hX_ => hK _ _ ?_)
            simp only [Act.put, List.setIfInBounds_toArray, List.set_cons_succ, List.set_cons_zero]
            clear hK
            obtain ⟨oJ, hb_⟩ := hX_
            replace rH := keep hb_ rH
            replace rz := keep hb_ rz
            replace rB := keep hb_ rB
            replace hKy := hKy.keep hb_
            replace hB := hB.keep hb_
            replace f0 := f0.below hb_
            replace f4 := f4.below hb_
            replace hw := Below.after hw hb_
            clear hb_
            rw [show [key, zr m].flatten = key ++ zr m by simp] at oJ
            refine wpAny_ready (rs := [6]) (fuel := 2) (by kernel_rfl) (by simp) (AllReady.cons rfl (fun K' hK => ?_) AllReady.nil)
            rw [if_pos (by kernel_rfl)]
            simp only [List.getElem_toArray, List.getElem_cons_succ, List.getElem_cons_zero]
            refine wp_call_ex (f := 10) (by kernel_rfl) (ex1 (cK.out q83 (key ++ zr m) _ (kb64_zr key m (by omega)) (by rw [List.length_append, zr_len]; omega) f0 f4 (Bys.of_own oJ (by rw [List.length_append, zr_len]; omega) (both_bd zK (zr_bd m))) (own_cap oJ) hB)) (fun v_ q84 hX_ => hK _ _ ?_)
            simp only [Act.put, List.setIfInBounds_toArray, List.set_cons_succ, List.set_cons_zero]
            clear hK
            obtain ⟨rfl, hb_⟩ := hX_
            replace rH := keep hb_ rH
            replace rz := keep hb_ rz
            replace rB := keep hb_ rB
            replace hKy := hKy.keep hb_
            replace hB := hB.keep hb_
            replace f0 := f0.below hb_
            replace f4 := f4.below hb_
            replace oJ := own_keep oJ hb_
            replace hw := Below.after hw hb_
            clear hb_
            refine wpAny_take (i := 8) (v := ?v71) rfl (by kernel_rfl) (by kernel_rfl) (by kernel_rfl) (fun _ _ _ h => h) (Or.inl ⟨by rfl, ?y71⟩) ?r71
            case y71 =>
              intro w_
              go_simp
              try with_reducible rfl
            simp only [Act.put, List.getElem_toArray, List.getElem_cons_succ, List.getElem_cons_zero, List.setIfInBounds_toArray, List.set_cons_succ, List.set_cons_zero]
            refine wpAny_take (i := 9) (v := ?v72) rfl (by kernel_rfl) (by kernel_rfl) (by kernel_rfl) (fun _ _ _ h => h) (Or.inl ⟨by rfl, ?y72⟩) ?r72
            case y72 =>
              intro w_
              go_simp
              try with_reducible rfl
            simp only [Act.put, List.getElem_toArray, List.getElem_cons_succ, List.getElem_cons_zero, List.setIfInBounds_toArray, List.set_cons_succ, List.set_cons_zero]
            refine wpAny_done (by kernel_rfl) ?_ _
            refine NoPanic.normal ?_
            go_wp2
            go_ret
            exact ⟨rfl, hw⟩
        · rw [if_pos (by kernel_rfl)]
          simp only [List.getElem_toArray, List.getElem_cons_succ, List.getElem_cons_zero]
          refine wp_load_row 25 _ rfl (gH) rfl 25 (irow .u8 H) (0, 0) _ (rH) Tryd.underlying25 rfl (infok8 _ hHl) (hK _ _ ?_)
          simp only [Act.put, List.setIfInBounds_toArray, List.set_cons_succ, List.set_cons_zero]
          clear hK
          refine wpAny_ready (rs := [2]) (fuel := 5) (by kernel_rfl) (by simp) (AllReady.cons rfl (fun K' hK => ?_) AllReady.nil)
          rw [if_pos (by kernel_rfl)]
          simp only [List.getElem_toArray, List.getElem_cons_succ, List.getElem_cons_zero]
          refine wp_world_op (.slice (some ⟨z0.heap.size, 0, none⟩) m m) (z0.alloc (.cells (irow .u8 (zr m)) 5)) (hx_make 22 _ _ rfl m rfl rfl z0 _ _ (make_i64 m (by omega) z0)) (hK _ _ ?_)
          simp only [Act.put, List.setIfInBounds_toArray, List.set_cons_succ, List.set_cons_zero]
          clear hK
          have hb_ : Below z0.heap.size z0 (z0.alloc (.cells (irow .u8 (zr m)) 5)) := (Below.refl _ _).alloc (Nat.le_refl _) _
          have rz := hp1_0 z0 (.cells (irow .u8 (zr m)) 5)
          replace rH := keep hb_ rH
          replace hKy := hKy.keep hb_
          replace hB := hB.keep hb_
          replace f0 := f0.below hb_
          replace f4 := f4.below hb_
          replace hw := Below.after hw hb_
          clear hb_
          generalize z0.alloc (.cells (irow .u8 (zr m)) 5) = q85 at *
          generalize z0.heap.size = g86 at *
          refine wpAny_ready (rs := [3]) (fuel := 4) (by kernel_rfl) (by simp) (AllReady.cons rfl (fun K' hK => ?_) AllReady.nil)
          rw [if_pos (by kernel_rfl)]
          simp only [List.getElem_toArray, List.getElem_cons_succ, List.getElem_cons_zero]
          refine wp_world_op (.slice (some ⟨q85.heap.size, 0, none⟩) 2 2) (q85.alloc (.cells #[.slice uk key.length ukc, .slice (some ⟨g86, 0, none⟩) m m] 22)) (by kernel_rfl) (hK _ _ ?_)
          simp only [Act.put, List.setIfInBounds_toArray, List.set_cons_succ, List.set_cons_zero]
          clear hK
          have hb_ : Below q85.heap.size q85 (q85.alloc (.cells #[.slice uk key.length ukc, .slice (some ⟨g86, 0, none⟩) m m] 22)) := (Below.refl _ _).alloc (Nat.le_refl _) _
          have rB := hp1_0 q85 (.cells #[.slice uk key.length ukc, .slice (some ⟨g86, 0, none⟩) m m] 22)
          replace rH := keep hb_ rH
          replace rz := keep hb_ rz
          replace hKy := hKy.keep hb_
          replace hB := hB.keep hb_
          replace f0 := f0.below hb_
          replace f4 := f4.below hb_
          replace hw := Below.after hw hb_
          clear hb_
          generalize q85.alloc (.cells #[.slice uk key.length ukc, .slice (some ⟨g86, 0, none⟩) m m] 22) = q87 at *
          generalize q85.heap.size = g88 at *
          refine wpAny_ready (rs := [4]) (fuel := 3) (by kernel_rfl) (by simp) (AllReady.cons rfl (fun K' hK => ?_) AllReady.nil)
          rw [if_pos (by kernel_rfl)]
          simp only [List.getElem_toArray, List.getElem_cons_succ, List.getElem_cons_zero]
          refine wp_call_ex (f := 8) (by kernel_rfl) (l_joined [key, zr m] q87 _ (Pcs.two rB hKy.nb (NB.of_row rz (by rw [zr_len]; omega) (zr_bd m) m m (zr_len m))) (by simp [zr_len]; omega)) (fun v_ q89 hX_ => hK _ _ ?_)
          simp only [Act.put, List.setIfInBounds_toArray, List.set_cons_succ, List.set_cons_zero]
          clear hK
          obtain ⟨oJ, hb_⟩ := hX_
          replace rH := keep hb_ rH
          replace rz := keep hb_ rz
          replace rB := keep hb_ rB
          replace hKy := hKy.keep hb_
          replace hB := hB.keep hb_
          replace f0 := f0.below hb_
          replace f4 := f4.below hb_
          replace hw := Below.after hw hb_
          clear hb_
          rw [show [key, zr m].flatten = key ++ zr m by simp] at oJ
          refine wpAny_ready (rs := [6]) (fuel := 2) (by kernel_rfl) (by simp) (AllReady.cons rfl (fun K' hK => ?_) AllReady.nil)
          rw [if_pos (by kernel_rfl)]
          simp only [List.getElem_toArray, List.getElem_cons_succ, List.getElem_cons_zero]
          refine wp_call_ex (f := 10) (by kernel_rfl) (ex1 (cK.out q89 (key ++ zr m) _ (kb64_zr key m (by omega)) (by rw [List.length_append, zr_len]; omega) f0 f4 (Bys.of_own oJ (by rw [List.length_append, zr_len]; omega) (both_bd zK (zr_bd m))) (own_cap oJ) hB)) (fun v_ q90 hX_ => hK _ _ ?_)
          simp only [Act.put, List.setIfInBounds_toArray, List.set_cons_succ, List.set_cons_zero]
          clear hK
          obtain ⟨rfl, hb_⟩ := hX_
          replace rH := keep hb_ rH
          replace rz := keep hb_ rz
          replace rB := keep hb_ rB
          replace hKy := hKy.keep hb_
          replace hB := hB.keep hb_
          replace f0 := f0.below hb_
          replace f4 := f4.below hb_
          replace oJ := own_keep oJ hb_
          replace hw := Below.after hw hb_
          clear hb_
          refine wpAny_take (i := 8) (v := ?v73) rfl (by kernel_rfl) (by kernel_rfl) (by kernel_rfl) (fun _ _ _ h => h) (Or.inl ⟨by rfl, ?y73⟩) ?r73
          case y73 =>
            intro w_
            go_simp
            try with_reducible rfl
          simp only [Act.put, List.getElem_toArray, List.getElem_cons_succ, List.getElem_cons_zero, List.setIfInBounds_toArray, List.set_cons_succ, List.set_cons_zero]
          refine wpAny_take (i := 9) (v := ?v74) rfl (by kernel_rfl) (by kernel_rfl) (by kernel_rfl) (fun _ _ _ h => h) (Or.inl ⟨by rfl, ?y74⟩) ?r74
          case y74 =>
            intro w_
            go_simp
            try with_reducible rfl
          simp only [Act.put, List.getElem_toArray, List.getElem_cons_succ, List.getElem_cons_zero, List.setIfInBounds_toArray, List.set_cons_succ, List.set_cons_zero]
          refine wpAny_done (by kernel_rfl) ?_ _
          refine NoPanic.normal ?_
          go_wp2
          go_ret
          exact ⟨rfl, hw⟩
      · have hd1 : decide (n < 0) = false := decide_eq_false hn
        obtain ⟨k, rfl⟩ := Int.eq_ofNat_of_zero_le (show 0 ≤ n by omega)
        by_cases hn2 : 64 - (key.length : Int) < (k : Int)
        · have hd2 : decide (64 - (key.length : Int) < (k : Int)) = true := decide_eq_true hn2
          obtain ⟨m, em⟩ : ∃ m : Nat, m = 64 - key.length := ⟨_, rfl⟩
          have em2 : (64 : Int) - (key.length : Int) = (m : Int) := by omega
          rw [em2] at hd2
          have hd3 : m < k := by omega
          have hm64 : key.length + m ≤ 64 := by omega
          clear em
          go_wp2
          have hbd : Below q69.heap.size q69 q69.drew := below_drN (Below.refl _ _) 1
          replace rH := keep hbd rH
          replace hKy := hKy.keep hbd
          replace hB := hB.keep hbd
          replace f0 := f0.below hbd
          replace f4 := f4.below hbd
          replace hw := Below.after hw hbd
          clear hbd
          refine wp_region_noPanic ?_
          refine wp_region_any (by kernel_rfl) ?_
          change wpAny _ _ _ _ _ _ _ (World.drew _)
          generalize q69.drew = z0 at *
          refine wpAny_take (i := 0) (v := ?v75) rfl (by kernel_rfl) (by kernel_rfl) (by kernel_rfl) (fun _ _ _ h => h) (Or.inl ⟨by rfl, ?y75⟩) ?r75
          case y75 =>
            intro w_
            go_simp
            try with_reducible rfl
          simp only [Act.put, List.getElem_toArray, List.getElem_cons_zero, List.setIfInBounds_toArray, List.set_cons_succ, List.set_cons_zero]
          refine wpAny_take (i := 1) (v := ?v76) rfl (by kernel_rfl) (by kernel_rfl) (by kernel_rfl) (fun _ _ _ h => h) (Or.inl ⟨by rfl, ?y76⟩) ?r76
          case y76 =>
            intro w_
            go_simp
            try with_reducible rfl
          simp only [Act.put, List.getElem_toArray, List.getElem_cons_succ, List.getElem_cons_zero, List.setIfInBounds_toArray, List.set_cons_succ, List.set_cons_zero]
          refine wpAny_take (i := 5) (v := ?v77) rfl (by kernel_rfl) (by kernel_rfl) (by kernel_rfl) (fun _ _ _ h => h) (Or.inl ⟨by rfl, ?y77⟩) ?r77
          case y77 =>
            intro w_
            go_simp
            try with_reducible rfl
          simp only [Act.put, List.getElem_toArray, List.getElem_cons_succ, List.getElem_cons_zero, List.setIfInBounds_toArray, List.set_cons_succ, List.set_cons_zero]
          refine wpAny_ready (rs := [2, 7]) (fuel := 6) (by kernel_rfl) (by simp) (AllReady.cons rfl (fun K' hK => ?_) (AllReady.cons rfl (fun K' hK => ?_) AllReady.nil))
          · rw [if_pos (by kernel_rfl)]
            simp only [List.getElem_toArray, List.getElem_cons_succ, List.getElem_cons_zero]
            refine wp_world_op (.slice (some ⟨z0.heap.size, 0, none⟩) m m) (z0.alloc (.cells (irow .u8 (zr m)) 5)) (hx_make 22 _ _ rfl m rfl rfl z0 _ _ (make_i64 m (by omega) z0)) (hK _ _ ?_)
            simp only [Act.put, List.setIfInBounds_toArray, List.set_cons_succ, List.set_cons_zero]
            clear hK
            have hb_ : Below z0.heap.size z0 (z0.alloc (.cells (irow .u8 (zr m)) 5)) := (Below.refl _ _).alloc (Nat.le_refl _) _
            have rz := hp1_0 z0 (.cells (irow .u8 (zr m)) 5)
            replace rH := keep hb_ rH
            replace hKy := hKy.keep hb_
            replace hB := hB.keep hb_
            replace f0 := f0.below hb_
            replace f4 := f4.below hb_
            replace hw := Below.after hw hb_
            clear hb_
            generalize z0.alloc (.cells (irow .u8 (zr m)) 5) = q91 at *
            generalize z0.heap.size = g92 at *
            refine wpAny_ready (rs := [3, 7]) (fuel := 5) (by kernel_rfl) (by simp) (AllReady.cons rfl (fun K' hK => ?_) (AllReady.cons rfl (fun K' hK => ?_) AllReady.nil))
            · rw [if_pos (by kernel_rfl)]
              simp only [List.getElem_toArray, List.getElem_cons_succ, List.getElem_cons_zero]
              refine wp_world_op (.slice (some ⟨q91.heap.size, 0, none⟩) 2 2) (q91.alloc (.cells #[.slice uk key.length ukc, .slice (some ⟨g92, 0, none⟩) m m] 22)) (by kernel_rfl) (hK _ _ ?_)
              simp only [Act.put, List.setIfInBounds_toArray, List.set_cons_succ, List.set_cons_zero]
              clear hK
              have hb_ : Below q91.heap.size q91 (q91.alloc (.cells #[.slice uk key.length ukc, .slice (some ⟨g92, 0, none⟩) m m] 22)) := (Below.refl _ _).alloc (Nat.le_refl _) _
              have rB := hp1_0 q91 (.cells #[.slice uk key.length ukc, .slice (some ⟨g92, 0, none⟩) m m] 22)
              replace rH := keep hb_ rH
              replace rz := keep hb_ rz
              replace hKy := hKy.keep hb_
              replace hB := hB.keep hb_
              replace f0 := f0.below hb_
              replace f4 := f4.below hb_
              replace hw := Below.after hw hb_
              clear hb_
              generalize q91.alloc (.cells #[.slice uk key.length ukc, .slice (some ⟨g92, 0, none⟩) m m] 22) = q93 at *
              generalize q91.heap.size = g94 at *
              refine wpAny_ready (rs := [4, 7]) (fuel := 4) (by kernel_rfl) (by simp) (AllReady.cons rfl (fun K' hK => ?_) (AllReady.cons rfl (fun K' hK => ?_) AllReady.nil))
              · rw [if_pos (by kernel_rfl)]
                simp only [List.getElem_toArray, List.getElem_cons_succ, List.getElem_cons_zero]
                refine wp_call_ex (f := 8) (by kernel_rfl) (l_joined [key, zr m] q93 _ (Pcs.two rB hKy.nb (NB.of_row rz (by rw [zr_len]; omega) (zr_bd m) m m (zr_len m))) (by simp [zr_len]; omega)) (fun v_ q95 hX_ => hK _ _ ?_)
                simp only [Act.put, List.setIfInBounds_toArray, List.set_cons_succ, List.set_cons_zero]
                clear hK
                obtain ⟨oJ, hb_⟩ := hX_
                replace rH := keep hb_ rH
                replace rz := keep hb_ rz
                replace rB := keep hb_ rB
                replace hKy := hKy.keep hb_
                replace hB := hB.keep hb_
                replace f0 := f0.below hb_
                replace f4 := f4.below hb_
                replace hw := Below.after hw hb_
                clear hb_
                rw [show [key, zr m].flatten = key ++ zr m by simp] at oJ
                refine wpAny_ready (rs := [6, 7]) (fuel := 3) (by kernel_rfl) (by simp) (AllReady.cons rfl (fun K' hK => ?_) (AllReady.cons rfl (fun K' hK => ?_) AllReady.nil))
                · rw [if_pos (by kernel_rfl)]
                  simp only [List.getElem_toArray, List.getElem_cons_succ, List.getElem_cons_zero]
                  refine wp_call_ex (f := 10) (by kernel_rfl) (ex1 (cK.out q95 (key ++ zr m) _ (kb64_zr key m (by omega)) (by rw [List.length_append, zr_len]; omega) f0 f4 (Bys.of_own oJ (by rw [List.length_append, zr_len]; omega) (both_bd zK (zr_bd m))) (own_cap oJ) hB)) (fun v_ q96 hX_ => hK _ _ ?_)
                  simp only [Act.put, List.setIfInBounds_toArray, List.set_cons_succ, List.set_cons_zero]
                  clear hK
                  obtain ⟨rfl, hb_⟩ := hX_
                  replace rH := keep hb_ rH
                  replace rz := keep hb_ rz
                  replace rB := keep hb_ rB
                  replace hKy := hKy.keep hb_
                  replace hB := hB.keep hb_
                  replace f0 := f0.below hb_
                  replace f4 := f4.below hb_
                  replace oJ := own_keep oJ hb_
                  replace hw := Below.after hw hb_
                  clear hb_
                  refine wpAny_ready (rs := [7]) (fuel := 2) (by kernel_rfl) (by simp) (AllReady.cons rfl (fun K' hK => ?_) AllReady.nil)
                  rw [if_pos (by kernel_rfl)]
                  simp only [List.getElem_toArray, List.getElem_cons_succ, List.getElem_cons_zero]
                  refine wp_load_row 25 _ rfl (gH) rfl 25 (irow .u8 H) (0, 0) _ (rH) Tryd.underlying25 rfl (infok8 _ hHl) (hK _ _ ?_)
                  simp only [Act.put, List.setIfInBounds_toArray, List.set_cons_succ, List.set_cons_zero]
                  clear hK
                  refine wpAny_take (i := 8) (v := ?v78) rfl (by kernel_rfl) (by kernel_rfl) (by kernel_rfl) (fun _ _ _ h => h) (Or.inl ⟨by rfl, ?y78⟩) ?r78
                  case y78 =>
                    intro w_
                    go_simp
                    try with_reducible rfl
                  simp only [Act.put, List.getElem_toArray, List.getElem_cons_succ, List.getElem_cons_zero, List.setIfInBounds_toArray, List.set_cons_succ, List.set_cons_zero]
                  refine wpAny_take (i := 9) (v := ?v79) rfl (by kernel_rfl) (by kernel_rfl) (by kernel_rfl) (fun _ _ _ h => h) (Or.inl ⟨by rfl, ?y79⟩) ?r79
                  case y79 =>
                    intro w_
                    go_simp
                    try with_reducible rfl
                  simp only [Act.put, List.getElem_toArray, List.getElem_cons_succ, List.getElem_cons_zero, List.setIfInBounds_toArray, List.set_cons_succ, List.set_cons_zero]
                  refine wpAny_done (by kernel_rfl) ?_ _
                  refine NoPanic.normal ?_
                  go_wp2
                  go_ret
                  exact ⟨rfl, hw⟩
                · rw [if_pos (by kernel_rfl)]
                  simp only [List.getElem_toArray, List.getElem_cons_succ, List.getElem_cons_zero]
                  refine wp_load_row 25 _ rfl (gH) rfl 25 (irow .u8 H) (0, 0) _ (rH) Tryd.underlying25 rfl (infok8 _ hHl) (hK _ _ ?_)
                  simp only [Act.put, List.setIfInBounds_toArray, List.set_cons_succ, List.set_cons_zero]
                  clear hK
                  refine wpAny_ready (rs := [6]) (fuel := 2) (by kernel_rfl) (by simp) (AllReady.cons rfl (fun K' hK => ?_) AllReady.nil)
                  rw [if_pos (by kernel_rfl)]
                  simp only [List.getElem_toArray, List.getElem_cons_succ, List.getElem_cons_zero]
                  refine wp_call_ex (f := 10) (by kernel_rfl) (ex1 (cK.out q95 (key ++ zr m) _ (kb64_zr key m (by omega)) (by rw [List.length_append, zr_len]; omega) f0 f4 (Bys.of_own oJ (by rw [List.length_append, zr_len]; omega) (both_bd zK (zr_bd m))) (own_cap oJ) hB)) (fun v_ q97 hX_ => hK _ _ ?_)
                  simp only [Act.put, List.setIfInBounds_toArray, List.set_cons_succ, List.set_cons_zero]
                  clear hK
                  obtain ⟨rfl, hb_⟩ := hX_
                  replace rH := keep hb_ rH
                  replace rz := keep hb_ rz
                  replace rB := keep hb_ rB
                  replace hKy := hKy.keep hb_
                  replace hB := hB.keep hb_
                  replace f0 := f0.below hb_
                  replace f4 := f4.below hb_
                  replace oJ := own_keep oJ hb_
                  replace hw := Below.after hw hb_
                  clear hb_
                  refine wpAny_take (i := 8) (v := ?v80) rfl (by kernel_rfl) (by kernel_rfl) (by kernel_rfl) (fun _ _ _ h => h) (Or.inl ⟨by rfl, ?y80⟩) ?r80
                  case y80 =>
                    intro w_
                    go_simp
                    try with_reducible rfl
                  simp only [Act.put, List.getElem_toArray, List.getElem_cons_succ, List.getElem_cons_zero, List.setIfInBounds_toArray, List.set_cons_succ, List.set_cons_zero]
                  refine wpAny_take (i := 9) (v := ?v81) rfl (by kernel_rfl) (by kernel_rfl) (by kernel_rfl) (fun _ _ _ h => h) (Or.inl ⟨by rfl, ?y81⟩) ?r81
                  case y81 =>
                    intro w_
                    go_simp
                    try with_reducible rfl
                  simp only [Act.put, List.getElem_toArray, List.getElem_cons_succ, List.getElem_cons_zero, List.setIfInBounds_toArray, List.set_cons_succ, List.set_cons_zero]
                  refine wpAny_done (by kernel_rfl) ?_ _
                  refine NoPanic.normal ?_
                  go_wp2
                  go_ret
                  exact ⟨rfl, hw⟩
              · rw [if_pos (by kernel_rfl)]
                simp only [List.getElem_toArray, List.getElem_cons_succ, List.getElem_cons_zero]
                refine wp_load_row 25 _ rfl (gH) rfl 25 (irow .u8 H) (0, 0) _ (rH) Tryd.underlying25 rfl (infok8 _ hHl) (hK _ _ ?_)
                simp only [Act.put, List.setIfInBounds_toArray, List.set_cons_succ, List.set_cons_zero]
                clear hK
                refine wpAny_ready (rs := [4]) (fuel := 3) (by kernel_rfl) (by simp) (AllReady.cons rfl (fun K' hK => ?_) AllReady.nil)
                rw [if_pos (by kernel_rfl)]
                simp only [List.getElem_toArray, List.getElem_cons_succ, List.getElem_cons_zero]
                refine wp_call_ex (f := 8) (by kernel_rfl) (l_joined [key, zr m] q93 _ (Pcs.two rB hKy.nb (NB.of_row rz (by rw [zr_len]; omega) (zr_bd m) m m (zr_len m))) (by simp [zr_len]; omega)) (fun v_ q98 hX_ => hK _ _ ?_)
                simp only [Act.put, List.setIfInBounds_toArray, List.set_cons_succ, List.set_cons_zero]
                clear hK
                obtain ⟨oJ, hb_⟩ := hX_
                replace rH := keep hb_ rH
                replace rz := keep hb_ rz
                replace rB := keep hb_ rB
                replace hKy := hKy.keep hb_
                replace hB := hB.keep hb_
                replace f0 := f0.below hb_
                replace f4 := f4.below hb_
                replace hw := Below.after hw hb_
                clear hb_
                rw [show [key, zr m].flatten = key ++ zr m by simp] at oJ
                refine wpAny_ready (rs := [6]) (fuel := 2) (by kernel_rfl) (by simp) (AllReady.cons rfl (fun K' hK => ?_) AllReady.nil)
                rw [if_pos (by kernel_rfl)]
                simp only [List.getElem_toArray, List.getElem_cons_succ, List.getElem_cons_zero]
                refine wp_call_ex (f := 10) (by kernel_rfl) (ex1 (cK.out q98 (key ++ zr m) _ (kb64_zr key m (by omega)) (by rw [List.length_append, zr_len]; omega) f0 f4 (Bys.of_own oJ (by rw [List.length_append, zr_len]; omega) (both_bd zK (zr_bd m))) (own_cap oJ) hB)) (fun v_ q99 hX_ => hK _ _ ?_)
                simp only [Act.put, List.setIfInBounds_toArray, List.set_cons_succ, List.set_cons_zero]
                clear hK
                obtain ⟨rfl, hb_⟩ := hX_
                replace rH := keep hb_ rH
                replace rz := keep hb_ rz
                replace rB := keep hb_ rB
                replace hKy := hKy.keep hb_
                replace hB := hB.keep hb_
                replace f0 := f0.below hb_
                replace f4 := f4.below hb_
                replace oJ := own_keep oJ hb_
                replace hw := Below.after hw hb_
                clear hb_
                refine wpAny_take (i := 8) (v := ?v82) rfl (by kernel_rfl) (by kernel_rfl) (by kernel_rfl) (fun _ _ _ h => h) (Or.inl ⟨by rfl, ?y82⟩) ?r82
                case y82 =>
                  intro w_
                  go_simp
                  try with_reducible rfl
                simp only [Act.put, List.getElem_toArray, List.getElem_cons_succ, List.getElem_cons_zero, List.setIfInBounds_toArray, List.set_cons_succ, List.set_cons_zero]
                refine wpAny_take (i := 9) (v := ?v83) rfl (by kernel_rfl) (by kernel_rfl) (by kernel_rfl) (fun _ _ _ h => h) (Or.inl ⟨by rfl, ?y83⟩) ?r83
                case y83 =>
                  intro w_
                  go_simp
                  try with_reducible rfl
                simp only [Act.put, List.getElem_toArray, List.getElem_cons_succ, List.getElem_cons_zero, List.setIfInBounds_toArray, List.set_cons_succ, List.set_cons_zero]
                refine wpAny_done (by kernel_rfl) ?_ _
                refine NoPanic.normal ?_
                go_wp2
                go_ret
                exact ⟨rfl, hw⟩
            · rw [if_pos (by kernel_rfl)]
              simp only [List.getElem_toArray, List.getElem_cons_succ, List.getElem_cons_zero]
              refine wp_load_row 25 _ rfl (gH) rfl 25 (irow .u8 H) (0, 0) _ (rH) Tryd.underlying25 rfl (infok8 _ hHl) (hK _ _ ?_)
              simp only [Act.put, List.setIfInBounds_toArray, List.set_cons_succ, List.set_cons_zero]
              clear hK
              refine wpAny_ready (rs := [3]) (fuel := 4) (by kernel_rfl) (by simp) (AllReady.cons rfl (fun K' hK => ?_) AllReady.nil)
              rw [if_pos (by kernel_rfl)]
              simp only [List.getElem_toArray, List.getElem_cons_succ, List.getElem_cons_zero]
              refine wp_world_op (.slice (some ⟨q91.heap.size, 0, none⟩) 2 2) (q91.alloc (.cells #[.slice uk key.length ukc, .slice (some ⟨g92, 0, none⟩) m m] 22)) (by kernel_rfl) (hK _ _ ?_)
              simp only [Act.put, List.setIfInBounds_toArray, List.set_cons_succ, List.set_cons_zero]
              clear hK
              have hb_ : Below q91.heap.size q91 (q91.alloc (.cells #[.slice uk key.length ukc, .slice (some ⟨g92, 0, none⟩) m m] 22)) := (Below.refl _ _).alloc (Nat.le_refl _) _
              have rB := hp1_0 q91 (.cells #[.slice uk key.length ukc, .slice (some ⟨g92, 0, none⟩) m m] 22)
              replace rH := keep hb_ rH
              replace rz := keep hb_ rz
              replace hKy := hKy.keep hb_
              replace hB := hB.keep hb_
              replace f0 := f0.below hb_
              replace f4 := f4.below hb_
              replace hw := Below.after hw hb_
              clear hb_
              generalize q91.alloc (.cells #[.slice uk key.length ukc, .slice (some ⟨g92, 0, none⟩) m m] 22) = q100 at *
              generalize q91.heap.size = g101 at *
              refine wpAny_ready (rs := [4]) (fuel := 3) (by kernel_rfl) (by simp) (AllReady.cons rfl (fun K' hK => ?_) AllReady.nil)
              rw [if_pos (by kernel_rfl)]
              simp only [List.getElem_toArray, List.getElem_cons_succ, List.getElem_cons_zero]
              refine wp_call_ex (f := 8) (by kernel_rfl) (l_joined [key, zr m] q100 _ (Pcs.two rB hKy.nb (NB.of_row rz (by rw [zr_len]; omega) (zr_bd m) m m (zr_len m))) (by simp [zr_len]; omega)) (fun v_ q102 hX_ => hK _ _ ?_)
              simp only [Act.put, List.setIfInBounds_toArray, List.set_cons_succ, List.set_cons_zero]
              clear hK
              obtain ⟨oJ, hb_⟩ := hX_
              replace rH := keep hb_ rH
              replace rz := keep hb_ rz
              replace rB := keep hb_ rB
              replace hKy := hKy.keep hb_
              replace hB := hB.keep hb_
              replace f0 := f0.below hb_
              replace f4 := f4.below hb_
              replace hw := Below.after hw hb_
              clear hb_
              rw [show [key, zr m].flatten = key ++ zr m by simp] at oJ
              refine wpAny_ready (rs := [6]) (fuel := 2) (by kernel_rfl) (by simp) (AllReady.cons rfl (fun K' hK => ?_) AllReady.nil)
              rw [if_pos (by kernel_rfl)]
              simp only [List.getElem_toArray, List.getElem_cons_succ, List.getElem_cons_zero]
              refine wp_call_ex (f := 10) (by kernel_rfl) (ex1 (cK.out q102 (key ++ zr m) _ (kb64_zr key m (by omega)) (by rw [List.length_append, zr_len]; omega) f0 f4 (Bys.of_own oJ (by rw [List.length_append, zr_len]; omega) (both_bd zK (zr_bd m))) (own_cap oJ) hB)) (fun v_ q103 hX_ => hK _ _ ?_)
              simp only [Act.put, List.setIfInBounds_toArray, List.set_cons_succ, List.set_cons_zero]
              clear hK
              obtain ⟨rfl, hb_⟩ := hX_
              replace rH := keep hb_ rH
              replace rz := keep hb_ rz
              replace rB := keep hb_ rB
              replace hKy := hKy.keep hb_
              replace hB := hB.keep hb_
              replace f0 := f0.below hb_
              replace f4 := f4.below hb_
              replace oJ := own_keep oJ hb_
              replace hw := Below.after hw hb_
              clear hb_
              refine wpAny_take (i := 8) (v := ?v84) rfl (by kernel_rfl) (by kernel_rfl) (by kernel_rfl) (fun _ _ _ h => h) (Or.inl ⟨by rfl, ?y84⟩) ?r84
              case y84 =>
                intro w_
                go_simp
                try with_reducible rfl
              simp only [Act.put, List.getElem_toArray, List.getElem_cons_succ, List.getElem_cons_zero, List.setIfInBounds_toArray, List.set_cons_succ, List.set_cons_zero]
              refine wpAny_take (i := 9) (v := ?v85) rfl (by kernel_rfl) (by kernel_rfl) (by kernel_rfl) (fun _ _ _ h => h) (Or.inl ⟨by rfl, ?y85⟩) ?r85
              case y85 =>
                intro w_
                go_simp
                try with_reducible rfl
              simp only [Act.put, List.getElem_toArray, List.getElem_cons_succ, List.getElem_cons_zero, List.setIfInBounds_toArray, List.set_cons_succ, List.set_cons_zero]
              refine wpAny_done (by kernel_rfl) ?_ _
              refine NoPanic.normal ?_
              go_wp2
              go_ret
              exact ⟨rfl, hw⟩
          · rw [if_pos (by kernel_rfl)]
            simp only [List.getElem_toArray, List.getElem_cons_succ, List.getElem_cons_zero]
            refine wp_load_row 25 _ rfl (gH) rfl 25 (irow .u8 H) (0, 0) _ (rH) Tryd.underlying25 rfl (infok8 _ hHl) (hK _ _ ?_)
            simp only [Act.put, List.setIfInBounds_toArray, List.set_cons_succ, List.set_cons_zero]
            clear hK
            refine wpAny_ready (rs := [2]) (fuel := 5) (by kernel_rfl) (by simp) (AllReady.cons rfl (fun K' hK => ?_) AllReady.nil)
            rw [if_pos (by kernel_rfl)]
            simp only [List.getElem_toArray, List.getElem_cons_succ, List.getElem_cons_zero]
            refine wp_world_op (.slice (some ⟨z0.heap.size, 0, none⟩) m m) (z0.alloc (.cells (irow .u8 (zr m)) 5)) (hx_make 22 _ _ rfl m rfl rfl z0 _ _ (make_i64 m (by omega) z0)) (hK _ _ ?_)
            simp only [Act.put, List.setIfInBounds_toArray, List.set_cons_succ, List.set_cons_zero]
            clear hK
            have hb_ : Below z0.heap.size z0 (z0.alloc (.cells (irow .u8 (zr m)) 5)) := (Below.refl _ _).alloc (Nat.le_refl _) _
            have rz := hp1_0 z0 (.cells (irow .u8 (zr m)) 5)
            replace rH := keep hb_ rH
            replace hKy := hKy.keep hb_
            replace hB := hB.keep hb_
            replace f0 := f0.below hb_
            replace f4 := f4.below hb_
            replace hw := Below.after hw hb_
            clear hb_
            generalize z0.alloc (.cells (irow .u8 (zr m)) 5) = q104 at *
            generalize z0.heap.size = g105 at *
            refine wpAny_ready (rs := [3]) (fuel := 4) (by kernel_rfl) (by simp) (AllReady.cons rfl (fun K' hK => ?_) AllReady.nil)
            rw [if_pos (by kernel_rfl)]
            simp only [List.getElem_toArray, List.getElem_cons_succ, List.getElem_cons_zero]
            refine wp_world_op (.slice (some ⟨q104.heap.size, 0, none⟩) 2 2) (q104.alloc (.cells #[.slice uk key.length ukc, .slice (some ⟨g105, 0, none⟩) m m] 22)) (by kernel_rfl) (hK _ _ ?_)
            simp only [Act.put, List.setIfInBounds_toArray, List.set_cons_succ, List.set_cons_zero]
            clear hK
            have hb_ : Below q104.heap.size q104 (q104.alloc (.cells #[.slice uk key.length ukc, .slice (some ⟨g105, 0, none⟩) m m] 22)) := (Below.refl _ _).alloc (Nat.le_refl _) _
            have rB := hp1_0 q104 (.cells #[.slice uk key.length ukc, .slice (some ⟨g105, 0, none⟩) m m] 22)
            replace rH := keep hb_ rH
            replace rz := keep hb_ rz
            replace hKy := hKy.keep hb_
            replace hB := hB.keep hb_
            replace f0 := f0.below hb_
            replace f4 := f4.below hb_
            replace hw := Below.after hw hb_
            clear hb_
            generalize q104.alloc (.cells #[.slice uk key.length ukc, .slice (some ⟨g105, 0, none⟩) m m] 22) = q106 at *
            generalize q104.heap.size = g107 at *
            refine wpAny_ready (rs := [4]) (fuel := 3) (by kernel_rfl) (by simp) (AllReady.cons rfl (fun K' hK => ?_) AllReady.nil)
            rw [if_pos (by kernel_rfl)]
            simp only [List.getElem_toArray, List.getElem_cons_succ, List.getElem_cons_zero]
            refine wp_call_ex (f := 8) (by kernel_rfl) (l_joined [key, zr m] q106 _ (Pcs.two rB hKy.nb (NB.of_row rz (by rw [zr_len]; omega) (zr_bd m) m m (zr_len m))) (by simp [zr_len]; omega)) (fun v_ q108 hX_ => hK _ _ ?_)
            simp only [Act.put, List.setIfInBounds_toArray, List.set_cons_succ, List.set_cons_zero]
            clear hK
            obtain ⟨oJ, hb_⟩ := hX_
            replace rH := keep hb_ rH
            replace rz := keep hb_ rz
            replace rB := keep hb_ rB
            replace hKy := hKy.keep hb_
            replace hB := hB.keep hb_
            replace f0 := f0.below hb_
            replace f4 := f4.below hb_
            replace hw := Below.after hw hb_
            clear hb_
            rw [show [key, zr m].flatten = key ++ zr m by simp] at oJ
            refine wpAny_ready (rs := [6]) (fuel := 2) (by kernel_rfl) (by simp) (AllReady.cons rfl (fun K' hK => ?_) AllReady.nil)
            rw [if_pos (by kernel_rfl)]
            simp only [List.getElem_toArray, List.getElem_cons_succ, List.getElem_cons_zero]
            refine wp_call_ex (f := 10) (by kernel_rfl) (ex1 (cK.out q108 (key ++ zr m) _ (kb64_zr key m (by omega)) (by rw [List.length_append, zr_len]; omega) f0 f4 (Bys.of_own oJ (by rw [List.length_append, zr_len]; omega) (both_bd zK (zr_bd m))) (own_cap oJ) hB)) (fun v_ q109 hX_ => hK _ _ ?_)
            simp only [Act.put, List.setIfInBounds_toArray, List.set_cons_succ, List.set_cons_zero]
            clear hK
            obtain ⟨rfl, hb_⟩ := hX_
            replace rH := keep hb_ rH
            replace rz := keep hb_ rz
            replace rB := keep hb_ rB
            replace hKy := hKy.keep hb_
            replace hB := hB.keep hb_
            replace f0 := f0.below hb_
            replace f4 := f4.below hb_
            replace oJ := own_keep oJ hb_
            replace hw := Below.after hw hb_
            clear hb_
            refine wpAny_take (i := 8) (v := ?v86) rfl (by kernel_rfl) (by kernel_rfl) (by kernel_rfl) (fun _ _ _ h => h) (Or.inl ⟨by rfl, ?y86⟩) ?r86
            case y86 =>
              intro w_
              go_simp
              try with_reducible rfl
            simp only [Act.put, List.getElem_toArray, List.getElem_cons_succ, List.getElem_cons_zero, List.setIfInBounds_toArray, List.set_cons_succ, List.set_cons_zero]
            refine wpAny_take (i := 9) (v := ?v87) rfl (by kernel_rfl) (by kernel_rfl) (by kernel_rfl) (fun _ _ _ h => h) (Or.inl ⟨by rfl, ?y87⟩) ?r87
            case y87 =>
              intro w_
              go_simp
              try with_reducible rfl
            simp only [Act.put, List.getElem_toArray, List.getElem_cons_succ, List.getElem_cons_zero, List.setIfInBounds_toArray, List.set_cons_succ, List.set_cons_zero]
            refine wpAny_done (by kernel_rfl) ?_ _
            refine NoPanic.normal ?_
            go_wp2
            go_ret
            exact ⟨rfl, hw⟩
        · have hd2 : decide (64 - (key.length : Int) < (k : Int)) = false := decide_eq_false hn2
          obtain ⟨m, em⟩ : ∃ m : Nat, m = k := ⟨_, rfl⟩
          subst em
          go_wp2
          have hbd : Below q69.heap.size q69 q69.drew := below_drN (Below.refl _ _) 1
          replace rH := keep hbd rH
          replace hKy := hKy.keep hbd
          replace hB := hB.keep hbd
          replace f0 := f0.below hbd
          replace f4 := f4.below hbd
          replace hw := Below.after hw hbd
          clear hbd
          refine wp_region_noPanic ?_
          refine wp_region_any (by kernel_rfl) ?_
          change wpAny _ _ _ _ _ _ _ (World.drew _)
          generalize q69.drew = z0 at *
          refine wpAny_take (i := 0) (v := ?v88) rfl (by kernel_rfl) (by kernel_rfl) (by kernel_rfl) (fun _ _ _ h => h) (Or.inl ⟨by rfl, ?y88⟩) ?r88
          case y88 =>
            intro w_
            go_simp
            try with_reducible rfl
          simp only [Act.put, List.getElem_toArray, List.getElem_cons_zero, List.setIfInBounds_toArray, List.set_cons_succ, List.set_cons_zero]
          refine wpAny_take (i := 1) (v := ?v89) rfl (by kernel_rfl) (by kernel_rfl) (by kernel_rfl) (fun _ _ _ h => h) (Or.inl ⟨by rfl, ?y89⟩) ?r89
          case y89 =>
            intro w_
            go_simp
            try with_reducible rfl
          simp only [Act.put, List.getElem_toArray, List.getElem_cons_succ, List.getElem_cons_zero, List.setIfInBounds_toArray, List.set_cons_succ, List.set_cons_zero]
          refine wpAny_take (i := 5) (v := ?v90) rfl (by kernel_rfl) (by kernel_rfl) (by kernel_rfl) (fun _ _ _ h => h) (Or.inl ⟨by rfl, ?y90⟩) ?r90
          case y90 =>
            intro w_
            go_simp
            try with_reducible rfl
          simp only [Act.put, List.getElem_toArray, List.getElem_cons_succ, List.getElem_cons_zero, List.setIfInBounds_toArray, List.set_cons_succ, List.set_cons_zero]
          refine wpAny_ready (rs := [2, 7]) (fuel := 6) (by kernel_rfl) (by simp) (AllReady.cons rfl (fun K' hK => ?_) (AllReady.cons rfl (fun K' hK => ?_) AllReady.nil))
          · rw [if_pos (by kernel_rfl)]
            simp only [List.getElem_toArray, List.getElem_cons_succ, List.getElem_cons_zero]
            refine wp_world_op (.slice (some ⟨z0.heap.size, 0, none⟩) m m) (z0.alloc (.cells (irow .u8 (zr m)) 5)) (hx_make 22 _ _ rfl m rfl rfl z0 _ _ (make_i64 m (by omega) z0)) (hK _ _ ?_)
            simp only [Act.put, List.setIfInBounds_toArray, List.set_cons_succ, List.set_cons_zero]
            clear hK
            have hb_ : Below z0.heap.size z0 (z0.alloc (.cells (irow .u8 (zr m)) 5)) := (Below.refl _ _).alloc (Nat.le_refl _) _
            have rz := hp1_0 z0 (.cells (irow .u8 (zr m)) 5)
            replace rH := keep hb_ rH
            replace hKy := hKy.keep hb_
            replace hB := hB.keep hb_
            replace f0 := f0.below hb_
            replace f4 := f4.below hb_
            replace hw := Below.after hw hb_
            clear hb_
            generalize z0.alloc (.cells (irow .u8 (zr m)) 5) = q110 at *
            generalize z0.heap.size = g111 at *
            refine wpAny_ready (rs := [3, 7]) (fuel := 5) (by kernel_rfl) (by simp) (AllReady.cons rfl (fun K' hK => ?_) (AllReady.cons rfl (fun K' hK => ?_) AllReady.nil))
            · rw [if_pos (by kernel_rfl)]
              simp only [List.getElem_toArray, List.getElem_cons_succ, List.getElem_cons_zero]
              refine wp_world_op (.slice (some ⟨q110.heap.size, 0, none⟩) 2 2) (q110.alloc (.cells #[.slice uk key.length ukc, .slice (some ⟨g111, 0, none⟩) m m] 22)) (by kernel_rfl) (hK _ _ ?_)
              simp only [Act.put, List.setIfInBounds_toArray, List.set_cons_succ, List.set_cons_zero]
              clear hK
              have hb_ : Below q110.heap.size q110 (q110.alloc (.cells #[.slice uk key.length ukc, .slice (some ⟨g111, 0, none⟩) m m] 22)) := (Below.refl _ _).alloc (Nat.le_refl _) _
              have rB := hp1_0 q110 (.cells #[.slice uk key.length ukc, .slice (some ⟨g111, 0, none⟩) m m] 22)
              replace rH := keep hb_ rH
              replace rz := keep hb_ rz
              replace hKy := hKy.keep hb_
              replace hB := hB.keep hb_
              replace f0 := f0.below hb_
              replace f4 := f4.below hb_
              replace hw := Below.after hw hb_
              clear hb_
              generalize q110.alloc (.cells #[.slice uk key.length ukc, .slice (some ⟨g111, 0, none⟩) m m] 22) = q112 at *
              generalize q110.heap.size = g113 at *
              refine wpAny_ready (rs := [4, 7]) (fuel := 4) (by kernel_rfl) (by simp) (AllReady.cons rfl (fun K' hK => ?_) (AllReady.cons rfl (fun K' hK => ?_) AllReady.nil))
              · rw [if_pos (by kernel_rfl)]
                simp only [List.getElem_toArray, List.getElem_cons_succ, List.getElem_cons_zero]
                refine wp_call_ex (f := 8) (by kernel_rfl) (l_joined [key, zr m] q112 _ (Pcs.two rB hKy.nb (NB.of_row rz (by rw [zr_len]; omega) (zr_bd m) m m (zr_len m))) (by simp [zr_len]; omega)) (fun v_ q114 hX_ => hK _ _ ?_)
                simp only [Act.put, List.setIfInBounds_toArray, List.set_cons_succ, List.set_cons_zero]
                clear hK
                obtain ⟨oJ, hb_⟩ := hX_
                replace rH := keep hb_ rH
                replace rz := keep hb_ rz
                replace rB := keep hb_ rB
                replace hKy := hKy.keep hb_
                replace hB := hB.keep hb_
                replace f0 := f0.below hb_
                replace f4 := f4.below hb_
                replace hw := Below.after hw hb_
                clear hb_
                rw [show [key, zr m].flatten = key ++ zr m by simp] at oJ
                refine wpAny_ready (rs := [6, 7]) (fuel := 3) (by kernel_rfl) (by simp) (AllReady.cons rfl (fun K' hK => ?_) (AllReady.cons rfl (fun K' hK => ?_) AllReady.nil))
                · rw [if_pos (by kernel_rfl)]
                  simp only [List.getElem_toArray, List.getElem_cons_succ, List.getElem_cons_zero]
                  refine wp_call_ex (f := 10) (by kernel_rfl) (ex1 (cK.out q114 (key ++ zr m) _ (kb64_zr key m (by omega)) (by rw [List.length_append, zr_len]; omega) f0 f4 (Bys.of_own oJ (by rw [List.length_append, zr_len]; omega) (both_bd zK (zr_bd m))) (own_cap oJ) hB)) (fun v_ q115 hX_ => hK _ _ ?_)
                  simp only [Act.put, List.setIfInBounds_toArray, List.set_cons_succ, List.set_cons_zero]
                  clear hK
                  obtain ⟨rfl, hb_⟩ := hX_
                  replace rH := keep hb_ rH
                  replace rz := keep hb_ rz
                  replace rB := keep hb_ rB
                  replace hKy := hKy.keep hb_
                  replace hB := hB.keep hb_
                  replace f0 := f0.below hb_
                  replace f4 := f4.below hb_
                  replace oJ := own_keep oJ hb_
                  replace hw := Below.after hw hb_
                  clear hb_
                  refine wpAny_ready (rs := [7]) (fuel := 2) (by kernel_rfl) (by simp) (AllReady.cons rfl (fun K' hK => ?_) AllReady.nil)
                  rw [if_pos (by kernel_rfl)]
                  simp only [List.getElem_toArray, List.getElem_cons_succ, List.getElem_cons_zero]
                  refine wp_load_row 25 _ rfl (gH) rfl 25 (irow .u8 H) (0, 0) _ (rH) Tryd.underlying25 rfl (infok8 _ hHl) (hK _ _ ?_)
                  simp only [Act.put, List.setIfInBounds_toArray, List.set_cons_succ, List.set_cons_zero]
                  clear hK
                  refine wpAny_take (i := 8) (v := ?v91) rfl (by kernel_rfl) (by kernel_rfl) (by kernel_rfl) (fun _ _ _ h => h) (Or.inl ⟨by rfl, ?y91⟩) ?r91
                  case y91 =>
                    intro w_
                    go_simp
                    try with_reducible rfl
                  simp only [Act.put, List.getElem_toArray, List.getElem_cons_succ, List.getElem_cons_zero, List.setIfInBounds_toArray, List.set_cons_succ, List.set_cons_zero]
                  refine wpAny_take (i := 9) (v := ?v92) rfl (by kernel_rfl) (by kernel_rfl) (by kernel_rfl) (fun _ _ _ h => h) (Or.inl ⟨by rfl, ?y92⟩) ?r92
                  case y92 =>
                    intro w_
                    go_simp
                    try with_reducible rfl
                  simp only [Act.put, List.getElem_toArray, List.getElem_cons_succ, List.getElem_cons_zero, List.setIfInBounds_toArray, List.set_cons_succ, List.set_cons_zero]
                  refine wpAny_done (by kernel_rfl) ?_ _
                  refine NoPanic.normal ?_
                  go_wp2
                  go_ret
                  exact ⟨rfl, hw⟩
                · rw [if_pos (by kernel_rfl)]
                  simp only [List.getElem_toArray, List.getElem_cons_succ, List.getElem_cons_zero]
                  refine wp_load_row 25 _ rfl (gH) rfl 25 (irow .u8 H) (0, 0) _ (rH) Tryd.underlying25 rfl (infok8 _ hHl) (hK _ _ ?_)
                  simp only [Act.put, List.setIfInBounds_toArray, List.set_cons_succ, List.set_cons_zero]
                  clear hK
                  refine wpAny_ready (rs := [6]) (fuel := 2) (by kernel_rfl) (by simp) (AllReady.cons rfl (fun K' hK => ?_) AllReady.nil)
                  rw [if_pos (by kernel_rfl)]
                  simp only [List.getElem_toArray, List.getElem_cons_succ, List.getElem_cons_zero]
                  refine wp_call_ex (f := 10) (by kernel_rfl) (ex1 (cK.out q114 (key ++ zr m) _ (kb64_zr key m (by omega)) (by rw [List.length_append, zr_len]; omega) f0 f4 (Bys.of_own oJ (by rw [List.length_append, zr_len]; omega) (both_bd zK (zr_bd m))) (own_cap oJ) hB)) (fun v_ q116 hX_ => hK _ _ ?_)
                  simp only [Act.put, List.setIfInBounds_toArray, List.set_cons_succ, List.set_cons_zero]
                  clear hK
                  obtain ⟨rfl, hb_⟩ := hX_
                  replace rH := keep hb_ rH
                  replace rz := keep hb_ rz
                  replace rB := keep hb_ rB
                  replace hKy := hKy.keep hb_
                  replace hB := hB.keep hb_
                  replace f0 := f0.below hb_
                  replace f4 := f4.below hb_
                  replace oJ := own_keep oJ hb_
                  replace hw := Below.after hw hb_
                  clear hb_
                  refine wpAny_take (i := 8) (v := ?v93) rfl (by kernel_rfl) (by kernel_rfl) (by kernel_rfl) (fun _ _ _ h => h) (Or.inl ⟨by rfl, ?y93⟩) ?r93
                  case y93 =>
                    intro w_
                    go_simp
                    try with_reducible rfl
                  simp only [Act.put, List.getElem_toArray, List.getElem_cons_succ, List.getElem_cons_zero, List.setIfInBounds_toArray, List.set_cons_succ, List.set_cons_zero]
                  refine wpAny_take (i := 9) (v := ?v94) rfl (by kernel_rfl) (by kernel_rfl) (by kernel_rfl) (fun _ _ _ h => h) (Or.inl ⟨by rfl, ?y94⟩) ?r94
                  case y94 =>
                    intro w_
                    go_simp
                    try with_reducible rfl
                  simp only [Act.put, List.getElem_toArray, List.getElem_cons_succ, List.getElem_cons_zero, List.setIfInBounds_toArray, List.set_cons_succ, List.set_cons_zero]
                  refine wpAny_done (by kernel_rfl) ?_ _
                  refine NoPanic.normal ?_
                  go_wp2
                  go_ret
                  exact ⟨rfl, hw⟩
              · rw [if_pos (by kernel_rfl)]
                simp only [List.getElem_toArray, List.getElem_cons_succ, List.getElem_cons_zero]
                refine wp_load_row 25 _ rfl (gH) rfl 25 (irow .u8 H) (0, 0) _ (rH) Tryd.underlying25 rfl (infok8 _ hHl) (hK _ _ ?_)
                simp only [Act.put, List.setIfInBounds_toArray, List.set_cons_succ, List.set_cons_zero]
                clear hK
                refine wpAny_ready (rs := [4]) (fuel := 3) (by kernel_rfl) (by simp) (AllReady.cons rfl (fun K' hK => ?_) AllReady.nil)
                rw [if_pos (by kernel_rfl)]
                simp only [List.getElem_toArray, List.getElem_cons_succ, List.getElem_cons_zero]
                refine wp_call_ex (f := 8) (by kernel_rfl) (l_joined [key, zr m] q112 _ (Pcs.two rB hKy.nb (NB.of_row rz (by rw [zr_len]; omega) (zr_bd m) m m (zr_len m))) (by simp [zr_len]; omega)) (fun v_ q117 hX_ => hK _ _ ?_)
                simp only [Act.put, List.setIfInBounds_toArray, List.set_cons_succ, List.set_cons_zero]
                clear hK
                obtain ⟨oJ, hb_⟩ := hX_
                replace rH := keep hb_ rH
                replace rz := keep hb_ rz
                replace rB := keep hb_ rB
                replace hKy := hKy.keep hb_
                replace hB := hB.keep hb_
                replace f0 := f0.below hb_
                replace f4 := f4.below hb_
                replace hw := Below.after hw hb_
                clear hb_
                rw [show [key, zr m].flatten = key ++ zr m by simp] at oJ
                refine wpAny_ready (rs := [6]) (fuel := 2) (by kernel_rfl) (by simp) (AllReady.cons rfl (fun K' hK => ?_) AllReady.nil)
                rw [if_pos (by kernel_rfl)]
                simp only [List.getElem_toArray, List.getElem_cons_succ, List.getElem_cons_zero]
                refine wp_call_ex (f := 10) (by kernel_rfl) (ex1 (cK.out q117 (key ++ zr m) _ (kb64_zr key m (by omega)) (by rw [List.length_append, zr_len]; omega) f0 f4 (Bys.of_own oJ (by rw [List.length_append, zr_len]; omega) (both_bd zK (zr_bd m))) (own_cap oJ) hB)) (fun v_ q118 hX_ => hK _ _ ?_)
                simp only [Act.put, List.setIfInBounds_toArray, List.set_cons_succ, List.set_cons_zero]
                clear hK
                obtain ⟨rfl, hb_⟩ := hX_
                replace rH := keep hb_ rH
                replace rz := keep hb_ rz
                replace rB := keep hb_ rB
                replace hKy := hKy.keep hb_
                replace hB := hB.keep hb_
                replace f0 := f0.below hb_
                replace f4 := f4.below hb_
                replace oJ := own_keep oJ hb_
                replace hw := Below.after hw hb_
                clear hb_
                refine wpAny_take (i := 8) (v := ?v95) rfl (by kernel_rfl) (by kernel_rfl) (by kernel_rfl) (fun _ _ _ h => h) (Or.inl ⟨by rfl, ?y95⟩) ?r95
                case y95 =>
                  intro w_
                  go_simp
                  try with_reducible rfl
                simp only [Act.put, List.getElem_toArray, List.getElem_cons_succ, List.getElem_cons_zero, List.setIfInBounds_toArray, List.set_cons_succ, List.set_cons_zero]
                refine wpAny_take (i := 9) (v := ?v96) rfl (by kernel_rfl) (by kernel_rfl) (by kernel_rfl) (fun _ _ _ h => h) (Or.inl ⟨by rfl, ?y96⟩) ?r96
                case y96 =>
                  intro w_
                  go_simp
                  try with_reducible rfl
                simp only [Act.put, List.getElem_toArray, List.getElem_cons_succ, List.getElem_cons_zero, List.setIfInBounds_toArray, List.set_cons_succ, List.set_cons_zero]
                refine wpAny_done (by kernel_rfl) ?_ _
                refine NoPanic.normal ?_
                go_wp2
                go_ret
                exact ⟨rfl, hw⟩
            · rw [if_pos (by kernel_rfl)]
              simp only [List.getElem_toArray, List.getElem_cons_succ, List.getElem_cons_zero]
              refine wp_load_row 25 _ rfl (gH) rfl 25 (irow .u8 H) (0, 0) _ (rH) Tryd.underlying25 rfl (infok8 _ hHl) (hK _ _ ?_)
              simp only [Act.put, List.setIfInBounds_toArray, List.set_cons_succ, List.set_cons_zero]
              clear hK
              refine wpAny_ready (rs := [3]) (fuel := 4) (by kernel_rfl) (by simp) (AllReady.cons rfl (fun K' hK => ?_) AllReady.nil)
              rw [if_pos (by kernel_rfl)]
              simp only [List.getElem_toArray, List.getElem_cons_succ, List.getElem_cons_zero]
              refine wp_world_op (.slice (some ⟨q110.heap.size, 0, none⟩) 2 2) (q110.alloc (.cells #[.slice uk key.length ukc, .slice (some ⟨g111, 0, none⟩) m m] 22)) (by kernel_rfl) (hK _ _ ?_)
              simp only [Act.put, List.setIfInBounds_toArray, List.set_cons_succ, List.set_cons_zero]
              clear hK
              have hb_ : Below q110.heap.size q110 (q110.alloc (.cells #[.slice uk key.length ukc, .slice (some ⟨g111, 0, none⟩) m m] 22)) := (Below.refl _ _).alloc (Nat.le_refl _) _
              have rB := hp1_0 q110 (.cells #[.slice uk key.length ukc, .slice (some ⟨g111, 0, none⟩) m m] 22)
              replace rH := keep hb_ rH
              replace rz := keep hb_ rz
              replace hKy := hKy.keep hb_
              replace hB := hB.keep hb_
              replace f0 := f0.below hb_
              replace f4 := f4.below hb_
              replace hw := Below.after hw hb_
              clear hb_
              generalize q110.alloc (.cells #[.slice uk key.length ukc, .slice (some ⟨g111, 0, none⟩) m m] 22) = q119 at *
              generalize q110.heap.size = g120 at *
              refine wpAny_ready (rs := [4]) (fuel := 3) (by kernel_rfl) (by simp) (AllReady.cons rfl (fun K' hK => ?_) AllReady.nil)
              rw [if_pos (by kernel_rfl)]
              simp only [List.getElem_toArray, List.getElem_cons_succ, List.getElem_cons_zero]
              refine wp_call_ex (f := 8) (by kernel_rfl) (l_joined [key, zr m] q119 _ (Pcs.two rB hKy.nb (NB.of_row rz (by rw [zr_len]; omega) (zr_bd m) m m (zr_len m))) (by simp [zr_len]; omega)) (fun v_ q121 hX_ => hK _ _ ?_)
              simp only [Act.put, List.setIfInBounds_toArray, List.set_cons_succ, List.set_cons_zero]
              clear hK
              obtain ⟨oJ, hb_⟩ := hX_
              replace rH := keep hb_ rH
              replace rz := keep hb_ rz
              replace rB := keep hb_ rB
              replace hKy := hKy.keep hb_
              replace hB := hB.keep hb_
              replace f0 := f0.below hb_
              replace f4 := f4.below hb_
              replace hw := Below.after hw hb_
              clear hb_
              rw [show [key, zr m].flatten = key ++ zr m by simp] at oJ
              refine wpAny_ready (rs := [6]) (fuel := 2) (by kernel_rfl) (by simp) (AllReady.cons rfl (fun K' hK => ?_) AllReady.nil)
              rw [if_pos (by kernel_rfl)]
              simp only [List.getElem_toArray, List.getElem_cons_succ, List.getElem_cons_zero]
              refine wp_call_ex (f := 10) (by kernel_rfl) (ex1 (cK.out q121 (key ++ zr m) _ (kb64_zr key m (by omega)) (by rw [List.length_append, zr_len]; omega) f0 f4 (Bys.of_own oJ (by rw [List.length_append, zr_len]; omega) (both_bd zK (zr_bd m))) (own_cap oJ) hB)) (fun v_ q122 hX_ => hK _ _ ?_)
              simp only [Act.put, List.setIfInBounds_toArray, List.set_cons_succ, List.set_cons_zero]
              clear hK
              obtain ⟨rfl, hb_⟩ := hX_
              replace rH := keep hb_ rH
              replace rz := keep hb_ rz
              replace rB := keep hb_ rB
              replace hKy := hKy.keep hb_
              replace hB := hB.keep hb_
              replace f0 := f0.below hb_
              replace f4 := f4.below hb_
              replace oJ := own_keep oJ hb_
              replace hw := Below.after hw hb_
              clear hb_
              refine wpAny_take (i := 8) (v := ?v97) rfl (by kernel_rfl) (by kernel_rfl) (by kernel_rfl) (fun _ _ _ h => h) (Or.inl ⟨by rfl, ?y97⟩) ?r97
              case y97 =>
                intro w_
                go_simp
                try with_reducible rfl
              simp only [Act.put, List.getElem_toArray, List.getElem_cons_succ, List.getElem_cons_zero, List.setIfInBounds_toArray, List.set_cons_succ, List.set_cons_zero]
              refine wpAny_take (i := 9) (v := ?v98) rfl (by kernel_rfl) (by kernel_rfl) (by kernel_rfl) (fun _ _ _ h => h) (Or.inl ⟨by rfl, ?y98⟩) ?r98
              case y98 =>
                intro w_
                go_simp
                try with_reducible rfl
              simp only [Act.put, List.getElem_toArray, List.getElem_cons_succ, List.getElem_cons_zero, List.setIfInBounds_toArray, List.set_cons_succ, List.set_cons_zero]
              refine wpAny_done (by kernel_rfl) ?_ _
              refine NoPanic.normal ?_
              go_wp2
              go_ret
              exact ⟨rfl, hw⟩
          · rw [if_pos (by kernel_rfl)]
            simp only [List.getElem_toArray, List.getElem_cons_succ, List.getElem_cons_zero]
            refine wp_load_row 25 _ rfl (gH) rfl 25 (irow .u8 H) (0, 0) _ (rH) Tryd.underlying25 rfl (infok8 _ hHl) (hK _ _ ?_)
            simp only [Act.put, List.setIfInBounds_toArray, List.set_cons_succ, List.set_cons_zero]
            clear hK
            refine wpAny_ready (rs := [2]) (fuel := 5) (by kernel_rfl) (by simp) (AllReady.cons rfl (fun K' hK => ?_) AllReady.nil)
            rw [if_pos (by kernel_rfl)]
            simp only [List.getElem_toArray, List.getElem_cons_succ, List.getElem_cons_zero]
            refine wp_world_op (.slice (some ⟨z0.heap.size, 0, none⟩) m m) (z0.alloc (.cells (irow .u8 (zr m)) 5)) (hx_make 22 _ _ rfl m rfl rfl z0 _ _ (make_i64 m (by omega) z0)) (hK _ _ ?_)
            simp only [Act.put, List.setIfInBounds_toArray, List.set_cons_succ, List.set_cons_zero]
            clear hK
            have hb_ : Below z0.heap.size z0 (z0.alloc (.cells (irow .u8 (zr m)) 5)) := (Below.refl _ _).alloc (Nat.le_refl _) _
            have rz := hp1_0 z0 (.cells (irow .u8 (zr m)) 5)
            replace rH := keep hb_ rH
            replace hKy := hKy.keep hb_
            replace hB := hB.keep hb_
            replace f0 := f0.below hb_
            replace f4 := f4.below hb_
            replace hw := Below.after hw hb_
            clear hb_
            generalize z0.alloc (.cells (irow .u8 (zr m)) 5) = q123 at *
            generalize z0.heap.size = g124 at *
            refine wpAny_ready (rs := [3]) (fuel := 4) (by kernel_rfl) (by simp) (AllReady.cons rfl (fun K' hK => ?_) AllReady.nil)
            rw [if_pos (by kernel_rfl)]
            simp only [List.getElem_toArray, List.getElem_cons_succ, List.getElem_cons_zero]
            refine wp_world_op (.slice (some ⟨q123.heap.size, 0, none⟩) 2 2) (q123.alloc (.cells #[.slice uk key.length ukc, .slice (some ⟨g124, 0, none⟩) m m] 22)) (by kernel_rfl) (hK _ _ ?_)
            simp only [Act.put, List.setIfInBounds_toArray, List.set_cons_succ, List.set_cons_zero]
            clear hK
            have hb_ : Below q123.heap.size q123 (q123.alloc (.cells #[.slice uk key.length ukc, .slice (some ⟨g124, 0, none⟩) m m] 22)) := (Below.refl _ _).alloc (Nat.le_refl _) _
            have rB := hp1_0 q123 (.cells #[.slice uk key.length ukc, .slice (some ⟨g124, 0, none⟩) m m] 22)
            replace rH := keep hb_ rH
            replace rz := keep hb_ rz
            replace hKy := hKy.keep hb_
            replace hB := hB.keep hb_
            replace f0 := f0.below hb_
            replace f4 := f4.below hb_
            replace hw := Below.after hw hb_
            clear hb_
            generalize q123.alloc (.cells #[.slice uk key.length ukc, .slice (some ⟨g124, 0, none⟩) m m] 22) = q125 at *
            generalize q123.heap.size = g126 at *
            refine wpAny_ready (rs := [4]) (fuel := 3) (by kernel_rfl) (by simp) (AllReady.cons rfl (fun K' hK => ?_) AllReady.nil)
            rw [if_pos (by kernel_rfl)]
            simp only [List.getElem_toArray, List.getElem_cons_succ, List.getElem_cons_zero]
            refine wp_call_ex (f := 8) (by kernel_rfl) (l_joined [key, zr m] q125 _ (Pcs.two rB hKy.nb (NB.of_row rz (by rw [zr_len]; omega) (zr_bd m) m m (zr_len m))) (by simp [zr_len]; omega)) (fun v_ q127 hX_ => hK _ _ ?_)
            simp only [Act.put, List.setIfInBounds_toArray, List.set_cons_succ, List.set_cons_zero]
            clear hK
            obtain ⟨oJ, hb_⟩ := hX_
            replace rH := keep hb_ rH
            replace rz := keep hb_ rz
            replace rB := keep hb_ rB
            replace hKy := hKy.keep hb_
            replace hB := hB.keep hb_
            replace f0 := f0.below hb_
            replace f4 := f4.below hb_
            replace hw := Below.after hw hb_
            clear hb_
            rw [show [key, zr m].flatten = key ++ zr m by simp] at oJ
            refine wpAny_ready (rs := [6]) (fuel := 2) (by kernel_rfl) (by simp) (AllReady.cons rfl (fun K' hK => ?_) AllReady.nil)
            rw [if_pos (by kernel_rfl)]
            simp only [List.getElem_toArray, List.getElem_cons_succ, List.getElem_cons_zero]
            refine wp_call_ex (f := 10) (by kernel_rfl) (ex1 (cK.out q127 (key ++ zr m) _ (kb64_zr key m (by omega)) (by rw [List.length_append, zr_len]; omega) f0 f4 (Bys.of_own oJ (by rw [List.length_append, zr_len]; omega) (both_bd zK (zr_bd m))) (own_cap oJ) hB)) (fun v_ q128 hX_ => hK _ _ ?_)
            simp only [Act.put, List.setIfInBounds_toArray, List.set_cons_succ, List.set_cons_zero]
            clear hK
            obtain ⟨rfl, hb_⟩ := hX_
            replace rH := keep hb_ rH
            replace rz := keep hb_ rz
            replace rB := keep hb_ rB
            replace hKy := hKy.keep hb_
            replace hB := hB.keep hb_
            replace f0 := f0.below hb_
            replace f4 := f4.below hb_
            replace oJ := own_keep oJ hb_
            replace hw := Below.after hw hb_
            clear hb_
            refine wpAny_take (i := 8) (v := ?v99) rfl (by kernel_rfl) (by kernel_rfl) (by kernel_rfl) (fun _ _ _ h => h) (Or.inl ⟨by rfl, ?y99⟩) ?r99
            case y99 =>
              intro w_
              go_simp
              try with_reducible rfl
            simp only [Act.put, List.getElem_toArray, List.getElem_cons_succ, List.getElem_cons_zero, List.setIfInBounds_toArray, List.set_cons_succ, List.set_cons_zero]
            refine wpAny_take (i := 9) (v := ?v100) rfl (by kernel_rfl) (by kernel_rfl) (by kernel_rfl) (fun _ _ _ h => h) (Or.inl ⟨by rfl, ?y100⟩) ?r100
            case y100 =>
              intro w_
              go_simp
              try with_reducible rfl
            simp only [Act.put, List.getElem_toArray, List.getElem_cons_succ, List.getElem_cons_zero, List.setIfInBounds_toArray, List.set_cons_succ, List.set_cons_zero]
            refine wpAny_done (by kernel_rfl) ?_ _
            refine NoPanic.normal ?_
            go_wp2
            go_ret
            exact ⟨rfl, hw⟩

end Go.Proofs.YtmcokphkaekdaabDoor
