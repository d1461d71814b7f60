import Derived.Test.YtlbndkfllegacaaGreatDoorJra
import Derived.Test.YtlbndkfllegacaaGreatDoorQb8
import Derived.OwnWalk
import Derived.Deep.Cut
import Derived.Deep.RegionHeld3
namespace Go.Proofs.YtlbndkfllegacaaGreatDoor
set_option maxRecDepth 100000
open Go Go.RowKit Go.Sort
attribute [local go_sem] setCell_drewN alloc_drewN
theorem r_sizeX (n : Nat) (hn : n < 18446744073709551616) (w : World) : Calls Tryz.prog 114 #[.int .u64 (n : Int)] w fun e w' => ∃ u, e = .returned u ∧ u = .int .i64 ((en n).length : Int) ∧ Below w.heap.size w w' := (r_size n hn w).mono fun _ _ h => ⟨_, h.1, rfl, h.2⟩
theorem bFld (cs : Array Value) (W : World) : (Instr.box 70 (.agg cs)).run Tryz.prog W = .ok (.pointer (some ⟨W.heap.size, 0, none⟩)) (W.alloc (.cells cs 70)) := by kernel_rfl
set_option maxRecDepth 100000 in
set_option maxHeartbeats 8000000 in
theorem r_at (p e : Int) (w : World) : Calls Tryz.prog 87 #[.int .i64 p, .int .i64 e] w fun x w' => x = .returned (.agg #[.int .i64 0, .int .i64 p, .int .i64 e]) ∧ Below w.heap.size w w' := by
  have hb : Below w.heap.size w (w.alloc (.cells #[.int .i64 0, .int .i64 0, .int .i64 0] 35)) := (Below.refl _ _).alloc (Nat.le_refl _) _
  have r1 := hp1_0 w (.cells #[.int .i64 0, .int .i64 0, .int .i64 0] 35)
  have hb2 := below_setRow (g := w.heap.size) hb (Nat.le_refl _) #[.int .i64 0, .int .i64 p, .int .i64 e]
  have r2 := setRow_heap _ w.heap.size _ (#[.int .i64 0, .int .i64 p, .int .i64 e]) _ _ r1
  have hone : (#[Value.int .i64 0, .int .i64 p, .int .i64 e] : Array Value).all (·.oneCell') = true := by simp [Value.oneCell']
  have A1 := hide hb2
  have A2 := hide r2
  clear hb hb2 r2
  go_enter Tryz.func87, Tryz.ntmps87
  go_wp2_with (first | (refine wpList_store_row rfl 35 _ _ rfl w.heap.size #[.int .i64 0, .int .i64 p, .int .i64 e] rfl rfl 35 _ r1 infoFt rfl hone ?_) | fail)
  exact bodyPost_ret (v := .agg #[.int .i64 0, .int .i64 p, .int .i64 e]) (results_cell_row Tryz.results87 _ _ w.heap.size _ _ _ _ rfl A2.out Tryz.underlying35 rfl infoFt) rfl ⟨rfl, A1.out⟩
set_option maxRecDepth 100000 in
set_option maxHeartbeats 8000000 in
theorem r_wide (f : Fd) (ao : Option Addr) (cap : Nat) (hf : Fok f) (h0 : 0 ≤ f.no) (h1 : f.no ≤ 536870911) (hk : known f.ty) (w : World) : Calls Tryz.prog 89 #[.agg #[.int .i64 f.no, .int .i64 f.ty, .int .u64 (f.num : Int), .slice ao f.dat.length cap]] w fun e w' => ∃ u, e = .returned u ∧ u = .int .i64 ((fby f).length : Int) ∧ Below w.heap.size w w' := by
  have ht := known_lt hk
  obtain ⟨hf1, hf2, _, _⟩ := hf
  have hhd : (fhd f : Int) = 8 * f.no + f.ty := by unfold fhd; omega
  have hhl : fhd f < 18446744073709551616 := by omega
  have cS := r_size (fhd f) hhl
  have cN := r_size f.num hf1
  have cD := r_sizeX f.dat.length (by omega)
  have hten := en_ten hhl
  have hten2 := en_ten hf1
  have hten3 := en_ten (n := f.dat.length) (by omega)
  have hl : (fby f).length = (en (fhd f)).length + (fvl f).length := by rw [fby, List.length_append]
  have hvl : fvl f = if f.ty = 0 then en f.num else if f.ty = 1 then fx 8 f.num else if f.ty = 5 then fx 4 f.num else itm f.dat := rfl
  have hL0 : f.ty = 0 → (fby f).length = (en (fhd f)).length + (en f.num).length := fun t => by rw [hl, hvl, if_pos t]
  have hL1 : f.ty = 1 → (fby f).length = (en (fhd f)).length + 8 := fun t => by rw [hl, hvl, if_neg (by omega), if_pos t, fx_len]
  have hL5 : f.ty = 5 → (fby f).length = (en (fhd f)).length + 4 := fun t => by rw [hl, hvl, if_neg (by omega), if_neg (by omega), if_pos t, fx_len]
  have hL2 : f.ty = 2 → (fby f).length = (en (fhd f)).length + (en f.dat.length).length + f.dat.length := fun t => by rw [hl, hvl, if_neg (by omega), if_neg (by omega), if_neg (by omega), itm_len]; omega
  unfold known at hk
  generalize (fby f).length = L at *
  clear hvl hl
  generalize (en (fhd f)).length = H at *
  generalize fhd f = HD at *
  generalize f.no = fno at *
  generalize f.ty = fty at *
  generalize f.num = num at *
  generalize f.dat.length = dl at *
  generalize (en dl).length = DL at *
  generalize (en num).length = NL at *
  clear f
  rw [hhd] at cS
  clear hhd hhl HD
  have R0 := hp1_0 w (.cells #[.int .i64 fno, .int .i64 fty, .int .u64 (num : Int), .slice ao dl cap] 70)
  have hw : Below w.heap.size w (w.alloc (.cells #[.int .i64 fno, .int .i64 fty, .int .u64 (num : Int), .slice ao dl cap] 70)) := (Below.refl _ _).alloc (Nat.le_refl _) _
  go_enter Tryz.func89, Tryz.ntmps89
  go_upto_region 1 with (first | (refine wpList_box rfl 70 _ rfl _ rfl (bFld _) ?_) | fail)
  generalize w.alloc (.cells #[.int .i64 fno, .int .i64 fty, .int .u64 (num : Int), .slice ao dl cap] 70) = w1 at *
  have c0 := cell_of_row _ _ 0 _ _ _ R0
  have c1 := cell_of_row _ _ 1 _ _ _ R0
  have cS1 := hide (cS w1)
  clear cS
  go_wp2_with (fail)
  refine cS1.out.mono ?_
  rintro e_ w2 ⟨rfl, hb_⟩
  replace R0 := keep hb_ R0
  replace hw := Below.after hw hb_
  clear hb_ cS1 c0 c1
  rcases hk with t | t | t | t
  · have e := hide (hL0 t)
    subst t
    have cN3 := hide (cN w2)
    have c1 := cell_of_row _ _ 1 _ _ _ R0
    have c2 := cell_of_row _ _ 2 _ _ _ R0
    clear hL0 hL1 hL2 hL5 cN cD
    go_wp2_with (fail)
    refine cN3.out.mono ?_
    rintro e_ w4 ⟨rfl, hb_⟩
    replace hw := Below.after hw hb_
    clear hb_ cN3
    go_wp2_with (fail)
    go_ret
    exact ⟨_, rfl, by rw [e.out]; go_num, hw⟩
  · have e := hide (hL1 t)
    subst t
    have c1 := cell_of_row _ _ 1 _ _ _ R0
    clear hL0 hL1 hL2 hL5 cN cD
    go_wp2_with (fail)
    go_ret
    exact ⟨_, rfl, by rw [e.out]; go_num, hw⟩
  · have e := hide (hL2 t)
    subst t
    have c1 := cell_of_row _ _ 1 _ _ _ R0
    clear hL0 hL1 hL2 hL5 cN
    go_upto_region 9 with (fail)
    clear c1
    have hbd : Below w2.heap.size w2 w2.drew := below_drN (Below.refl _ _) 1
    replace R0 := keep hbd R0
    replace hw := Below.after hw hbd
    clear hbd
    have q0 : IntKind.wrap .u64 (dl : Int) = (dl : Int) := by show (dl : Int) % 18446744073709551616 = dl; omega
    have q1 : IntKind.wrap .i64 ((H : Int) + (DL : Int)) = (H : Int) + (DL : Int) := by rw [IntKind.wrap_i64]; omega
    have q2 : IntKind.wrap .i64 ((H : Int) + (DL : Int) + (dl : Int)) = (H : Int) + (DL : Int) + (dl : Int) := by rw [IntKind.wrap_i64]; omega
    refine wp_region_noPanic ?_
    refine wp_region_held (S := fun W => W.heap[w.heap.size]? = some (.cells #[.int .i64 fno, .int .i64 2, .int .u64 (num : Int), .slice ao dl cap] 70 (0, 0))) (by kernel_rfl) ?_
    change wpAnyH _ _ _ _ _ _ _ _ (World.drew _)
    generalize w2.drew = y1 at *
    refine wpAnyH_take (i := 0) (v := ?v1) rfl (by kernel_rfl) (by kernel_rfl) (by kernel_rfl) (fun _ _ _ h => h) (Or.inl ⟨by rfl, ?y1⟩) R0 ?r1
    case y1 =>
      intro w_ hS_
      go_simp
      try with_reducible rfl
    simp only [Act.put, List.getElem_toArray, List.getElem_cons_zero, List.setIfInBounds_toArray, List.set_cons_succ, List.set_cons_zero]
    refine wpAnyH_take (i := 1) (v := ?v2) rfl (by kernel_rfl) (by kernel_rfl) (by kernel_rfl) (fun _ _ _ h => h) (Or.inl ⟨by rfl, ?y2⟩) R0 ?r2
    case y2 =>
      intro w_ hS_
      go_simp
      try with_reducible rfl
    simp only [Act.put, List.getElem_toArray, List.getElem_cons_succ, List.getElem_cons_zero, List.setIfInBounds_toArray, List.set_cons_succ, List.set_cons_zero]
    refine wpAnyH_take (i := 2) (v := .slice ao dl cap) rfl (by kernel_rfl) (by kernel_rfl) (by kernel_rfl) (fun _ _ _ h => h) (Or.inl ⟨by rfl, ?y3⟩) R0 ?r3
    case y3 =>
      intro w_ hS_
      have c_ := cell_of_row _ _ 3 _ _ _ hS_
      go_simp
      try with_reducible rfl
    simp only [Act.put, List.getElem_toArray, List.getElem_cons_succ, List.getElem_cons_zero, List.setIfInBounds_toArray, List.set_cons_succ, List.set_cons_zero]
    refine wpAnyH_take (i := 3) (v := ?v4) rfl (by kernel_rfl) (by kernel_rfl) (by kernel_rfl) (fun _ _ _ h => h) (Or.inl ⟨by rfl, ?y4⟩) R0 ?r4
    case y4 =>
      intro w_ hS_
      go_simp
      try with_reducible rfl
    simp only [Act.put, List.getElem_toArray, List.getElem_cons_succ, List.getElem_cons_zero, List.setIfInBounds_toArray, List.set_cons_succ, List.set_cons_zero]
    refine wpAnyH_take (i := 4) (v := .int .u64 (dl : Int)) rfl (by kernel_rfl) (by kernel_rfl) (by kernel_rfl) (fun _ _ _ h => h) (Or.inl ⟨by rfl, ?y5⟩) R0 ?r5
    case y5 =>
      intro w_ hS_
      go_simp
      try with_reducible rfl
    simp only [Act.put, List.getElem_toArray, List.getElem_cons_succ, List.getElem_cons_zero, List.setIfInBounds_toArray, List.set_cons_succ, List.set_cons_zero]
    refine wpAnyH_take (i := 7) (v := ?v6) rfl (by kernel_rfl) (by kernel_rfl) (by kernel_rfl) (fun _ _ _ h => h) (Or.inl ⟨by rfl, ?y6⟩) R0 ?r6
    case y6 =>
      intro w_ hS_
      go_simp
      try with_reducible rfl
    simp only [Act.put, List.getElem_toArray, List.getElem_cons_succ, List.getElem_cons_zero, List.setIfInBounds_toArray, List.set_cons_succ, List.set_cons_zero]
    refine wpAnyH_take (i := 8) (v := .slice ao dl cap) rfl (by kernel_rfl) (by kernel_rfl) (by kernel_rfl) (fun _ _ _ h => h) (Or.inl ⟨by rfl, ?y7⟩) R0 ?r7
    case y7 =>
      intro w_ hS_
      have c_ := cell_of_row _ _ 3 _ _ _ hS_
      go_simp
      try with_reducible rfl
    simp only [Act.put, List.getElem_toArray, List.getElem_cons_succ, List.getElem_cons_zero, List.setIfInBounds_toArray, List.set_cons_succ, List.set_cons_zero]
    refine wpAnyH_take (i := 9) (v := ?v8) rfl (by kernel_rfl) (by kernel_rfl) (by kernel_rfl) (fun _ _ _ h => h) (Or.inl ⟨by rfl, ?y8⟩) R0 ?r8
    case y8 =>
      intro w_ hS_
      go_simp
      try with_reducible rfl
    simp only [Act.put, List.getElem_toArray, List.getElem_cons_succ, List.getElem_cons_zero, List.setIfInBounds_toArray, List.set_cons_succ, List.set_cons_zero]
    refine wpAnyH_one (k := 5) (fuel := 3) (by kernel_rfl) rfl (by kernel_rfl) (fun K_ hK => ?_)
    refine wp_call_ex (f := 114) (by kernel_rfl) (cD y1) (fun v_ y2 hX_ => ?_)
    obtain ⟨rfl, hb_⟩ := hX_
    replace R0 := keep hb_ R0
    replace hw := Below.after hw hb_
    clear hb_
    refine hK _ _ R0 ?_
    simp only [Act.put, List.getElem_toArray, List.getElem_cons_succ, List.getElem_cons_zero, List.setIfInBounds_toArray, List.set_cons_succ, List.set_cons_zero]
    clear hK
    refine wpAnyH_take (i := 6) (v := .int .i64 ((H : Int) + (DL : Int))) rfl (by kernel_rfl) (by kernel_rfl) (by kernel_rfl) (fun _ _ _ h => h) (Or.inl ⟨by rfl, ?y9⟩) R0 ?r9
    case y9 =>
      intro w_ hS_
      go_simp
      try with_reducible rfl
    simp only [Act.put, List.getElem_toArray, List.getElem_cons_succ, List.getElem_cons_zero, List.setIfInBounds_toArray, List.set_cons_succ, List.set_cons_zero]
    refine wpAnyH_take (i := 10) (v := .int .i64 ((H : Int) + (DL : Int) + (dl : Int))) rfl (by kernel_rfl) (by kernel_rfl) (by kernel_rfl) (fun _ _ _ h => h) (Or.inl ⟨by rfl, ?y10⟩) R0 ?r10
    case y10 =>
      intro w_ hS_
      go_simp
      try with_reducible rfl
    simp only [Act.put, List.getElem_toArray, List.getElem_cons_succ, List.getElem_cons_zero, List.setIfInBounds_toArray, List.set_cons_succ, List.set_cons_zero]
    refine wpAnyH_take (i := 11) (v := ?v11) rfl (by kernel_rfl) (by kernel_rfl) (by kernel_rfl) (fun _ _ _ h => h) (Or.inl ⟨by rfl, ?y11⟩) R0 ?r11
    case y11 =>
      intro w_ hS_
      go_simp
      try with_reducible rfl
    simp only [Act.put, List.getElem_toArray, List.getElem_cons_succ, List.getElem_cons_zero, List.setIfInBounds_toArray, List.set_cons_succ, List.set_cons_zero]
    refine wpAnyH_done (by kernel_rfl) ?_ _
    refine NoPanic.normal ?_
    go_wp2_with (fail)
    go_ret
    exact ⟨_, rfl, by rw [e.out]; show Value.int .i64 ((H : Int) + (DL : Int) + (dl : Int)) = _; congr 1, hw⟩
  · have e := hide (hL5 t)
    subst t
    have c1 := cell_of_row _ _ 1 _ _ _ R0
    clear hL0 hL1 hL2 hL5 cN cD
    go_wp2_with (fail)
    go_ret
    exact ⟨_, rfl, by rw [e.out]; go_num, hw⟩
end Go.Proofs.YtlbndkfllegacaaGreatDoor
