import Derived.Test.YtalgcjkiajojoaaGreatDoorQbXdc
import Derived.OwnWalk
import Derived.Deep.Cut
import Derived.Deep.RegionHeld3
import Derived.Test.YtalgcjkiajojoaaGreatDoorQbKtf
namespace Go.Proofs.YtalgcjkiajojoaaGreatDoor
set_option maxRecDepth 100000
open Go Go.RowKit Go.Sort
attribute [local go_sem] setCell_drewN alloc_drewN
section
variable {P : Program} {ops : Array Oper} {Q : Exit → Act → World → Prop} {md : Region.Mode} {S : World → Prop}
end
theorem a_sizeX (n : Nat) (hn : n < 18446744073709551616) (w : World) : Calls Tryz.prog 46 #[.int .u64 (n : Int)] w fun e w' => ∃ u, e = .returned u ∧ u = .int .i64 ((en n).length : Int) ∧ Below w.heap.size w w' := (a_size n hn w).mono fun _ _ h => ⟨_, h.1, rfl, h.2⟩
set_option maxRecDepth 100000 in
set_option maxHeartbeats 8000000 in
theorem a_endOf (f : Fd) (ao : Option Addr) (cap : Nat) (at_ : Int) (hat : 0 ≤ at_ ∧ at_ ≤ 4611686018427387904) (hf : Fok f) (h0 : 0 ≤ f.no) (h1 : f.no ≤ 536870911) (hk : known f.ty) (w : World) : Calls Tryz.prog 41 #[.agg #[.int .i64 f.no, .int .i64 f.ty, .int .u64 (f.num : Int), .slice ao f.dat.length cap], .int .i64 at_] w fun e w' => ∃ u, e = .returned u ∧ u = .int .i64 (at_ + ((fby f).length : Int)) ∧ Below w.heap.size w w' := by
 have ht := known_lt hk
 obtain ⟨N, hN⟩ := Int.eq_ofNat_of_zero_le h0
 obtain ⟨hf1, hf2, _, _⟩ := hf
 have hH : (en (fhd f)).length = (en (8 * N)).length := by
  have e : fhd f = 8 * N + f.ty.toNat := by unfold fhd; rw [hN]; rfl
  rw [e]
  exact en_head N _ (by omega)
 have cH := s_headOf N (by omega)
 have cS := a_size (8 * N) (by omega)
 have cN := a_size f.num hf1
 have cD := a_sizeX f.dat.length (by omega)
 have hten := en_ten (n := 8 * N) (by omega)
 have hten2 := en_ten hf1
 have hten3 := en_ten (n := f.dat.length) (by omega)
 have hl : (fby f).length = (en (8 * N)).length + (fvl f).length := by rw [fby, List.length_append, hH]
 have hvl : fvl f = if f.ty = 0 then en f.num else if f.ty = 1 then fx 8 f.num else if f.ty = 5 then fx 4 f.num else itm f.dat := rfl
 have hL0 : f.ty = 0 → (fby f).length = (en (8 * N)).length + (en f.num).length := fun t => by rw [hl, hvl, if_pos t]
 have hL1 : f.ty = 1 → (fby f).length = (en (8 * N)).length + 8 := fun t => by rw [hl, hvl, if_neg (by omega), if_pos t, fx_len]
 have hL5 : f.ty = 5 → (fby f).length = (en (8 * N)).length + 4 := fun t => by rw [hl, hvl, if_neg (by omega), if_neg (by omega), if_pos t, fx_len]
 have hL2 : f.ty = 2 → (fby f).length = (en (8 * N)).length + (en f.dat.length).length + f.dat.length := fun t => by rw [hl, hvl, if_neg (by omega), if_neg (by omega), if_neg (by omega), itm_len]; omega
 unfold known at hk
 generalize (fby f).length = L at *
 clear hvl hl hH
 generalize hfn : f.no = fno at *
 generalize f.ty = fty at *
 generalize f.num = num at *
 generalize f.dat.length = dl at *
 generalize (en (8 * N)).length = H at *
 generalize (en dl).length = DL at *
 generalize (en num).length = NL at *
 replace hN := hide hN
 clear hfn f
 have R0 := hp1_0 w (.cells #[.int .i64 fno, .int .i64 fty, .int .u64 (num : Int), .slice ao dl cap] 107)
 have hw : Below w.heap.size w (w.alloc (.cells #[.int .i64 fno, .int .i64 fty, .int .u64 (num : Int), .slice ao dl cap] 107)) := (Below.refl _ _).alloc (Nat.le_refl _) _
 go_enter Tryz.func41, Tryz.ntmps41
 go_upto_region 1 with (fail)
 generalize w.alloc (.cells #[.int .i64 fno, .int .i64 fty, .int .u64 (num : Int), .slice ao dl cap] 107) = w1 at *
 have c0 := cell_of_row _ _ 0 _ _ _ R0
 have cH1 := cH w1
 rw [← hN.out] at cH1
 replace cH1 := hide cH1
 clear cH
 go_wp2_with (fail)
 refine cH1.out.mono ?_
 rintro e_ w2 ⟨rfl, hb_⟩
 replace R0 := keep hb_ R0
 replace hw := Below.after hw hb_
 clear hb_ c0 cH1
 have cS2 := hide (cS w2)
 clear cS
 go_wp2_with (fail)
 refine cS2.out.mono ?_
 rintro e_ w3 ⟨rfl, hb_⟩
 replace R0 := keep hb_ R0
 replace hw := Below.after hw hb_
 clear hb_ cS2
 rcases hk with t | t | t | t
 ·have e := hide (hL0 t)
  subst t
  have cN3 := hide (cN w3)
  have c1 := cell_of_row _ _ 1 _ _ _ R0
  have c2 := cell_of_row _ _ 2 _ _ _ R0
  clear hL0 hL1 hL2 hL5 cN cD
  go_wp2_with (fail)
  refine cN3.out.mono ?_
  rintro e_ w4 ⟨rfl, hb_⟩
  replace hw := Below.after hw hb_
  clear hb_ cN3
  go_wp2_with (fail)
  go_ret
  exact ⟨_, rfl, by rw [e.out]; go_num, hw⟩
 ·have e := hide (hL1 t)
  subst t
  have c1 := cell_of_row _ _ 1 _ _ _ R0
  clear hL0 hL1 hL2 hL5 cN cD
  go_wp2_with (fail)
  go_ret
  exact ⟨_, rfl, by rw [e.out]; go_num, hw⟩
 ·have e := hide (hL2 t)
  subst t
  have c1 := cell_of_row _ _ 1 _ _ _ R0
  clear hL0 hL1 hL2 hL5 cN
  go_upto_region 8 with (fail)
  clear c1
  have hbd : Below w3.heap.size w3 w3.drew := below_drN (Below.refl _ _) 1
  replace R0 := keep hbd R0
  replace hw := Below.after hw hbd
  clear hbd
  have q0 : IntKind.wrap .u64 (dl : Int) = (dl : Int) := by show (dl : Int) % 18446744073709551616 = dl; omega
  have q1 : IntKind.wrap .i64 (at_ + (H : Int) + (DL : Int)) = at_ + (H : Int) + (DL : Int) := by rw [IntKind.wrap_i64]; omega
  have q2 : IntKind.wrap .i64 (at_ + (H : Int) + (DL : Int) + (dl : Int)) = at_ + (H : Int) + (DL : Int) + (dl : Int) := by rw [IntKind.wrap_i64]; omega
  refine wp_region_noPanic ?_
  refine wp_region_held (S := fun W => W.heap[w.heap.size]? = some (.cells #[.int .i64 fno, .int .i64 2, .int .u64 (num : Int), .slice ao dl cap] 107 (0, 0))) (by kernel_rfl) ?_
  change wpAnyH _ _ _ _ _ _ _ _ (World.drew _)
  generalize w3.drew = y1 at *
  refine wpAnyH_take (i := 0) (v := ?v1) rfl (by kernel_rfl) (by kernel_rfl) (by kernel_rfl) (fun _ _ _ h => h) (Or.inl ⟨by rfl, ?y1⟩) R0 ?r1
  case y1 =>
   intro w_ hS_
   go_simp
   try with_reducible rfl
  simp only [Act.put, List.getElem_toArray, List.getElem_cons_zero, List.setIfInBounds_toArray, List.set_cons_succ, List.set_cons_zero]
  refine wpAnyH_take (i := 1) (v := ?v2) rfl (by kernel_rfl) (by kernel_rfl) (by kernel_rfl) (fun _ _ _ h => h) (Or.inl ⟨by rfl, ?y2⟩) R0 ?r2
  case y2 =>
   intro w_ hS_
   go_simp
   try with_reducible rfl
  simp only [Act.put, List.getElem_toArray, List.getElem_cons_succ, List.getElem_cons_zero, List.setIfInBounds_toArray, List.set_cons_succ, List.set_cons_zero]
  refine wpAnyH_take (i := 2) (v := .slice ao dl cap) rfl (by kernel_rfl) (by kernel_rfl) (by kernel_rfl) (fun _ _ _ h => h) (Or.inl ⟨by rfl, ?y3⟩) R0 ?r3
  case y3 =>
   intro w_ hS_
   have c_ := cell_of_row _ _ 3 _ _ _ hS_
   go_simp
   try with_reducible rfl
  simp only [Act.put, List.getElem_toArray, List.getElem_cons_succ, List.getElem_cons_zero, List.setIfInBounds_toArray, List.set_cons_succ, List.set_cons_zero]
  refine wpAnyH_take (i := 3) (v := ?v4) rfl (by kernel_rfl) (by kernel_rfl) (by kernel_rfl) (fun _ _ _ h => h) (Or.inl ⟨by rfl, ?y4⟩) R0 ?r4
  case y4 =>
   intro w_ hS_
   go_simp
   try with_reducible rfl
  simp only [Act.put, List.getElem_toArray, List.getElem_cons_succ, List.getElem_cons_zero, List.setIfInBounds_toArray, List.set_cons_succ, List.set_cons_zero]
  refine wpAnyH_take (i := 4) (v := .int .u64 (dl : Int)) rfl (by kernel_rfl) (by kernel_rfl) (by kernel_rfl) (fun _ _ _ h => h) (Or.inl ⟨by rfl, ?y5⟩) R0 ?r5
  case y5 =>
   intro w_ hS_
   go_simp
   try with_reducible rfl
  simp only [Act.put, List.getElem_toArray, List.getElem_cons_succ, List.getElem_cons_zero, List.setIfInBounds_toArray, List.set_cons_succ, List.set_cons_zero]
  refine wpAnyH_take (i := 7) (v := ?v6) rfl (by kernel_rfl) (by kernel_rfl) (by kernel_rfl) (fun _ _ _ h => h) (Or.inl ⟨by rfl, ?y6⟩) R0 ?r6
  case y6 =>
   intro w_ hS_
   go_simp
   try with_reducible rfl
  simp only [Act.put, List.getElem_toArray, List.getElem_cons_succ, List.getElem_cons_zero, List.setIfInBounds_toArray, List.set_cons_succ, List.set_cons_zero]
  refine wpAnyH_take (i := 8) (v := .slice ao dl cap) rfl (by kernel_rfl) (by kernel_rfl) (by kernel_rfl) (fun _ _ _ h => h) (Or.inl ⟨by rfl, ?y7⟩) R0 ?r7
  case y7 =>
   intro w_ hS_
   have c_ := cell_of_row _ _ 3 _ _ _ hS_
   go_simp
   try with_reducible rfl
  simp only [Act.put, List.getElem_toArray, List.getElem_cons_succ, List.getElem_cons_zero, List.setIfInBounds_toArray, List.set_cons_succ, List.set_cons_zero]
  refine wpAnyH_take (i := 9) (v := ?v8) rfl (by kernel_rfl) (by kernel_rfl) (by kernel_rfl) (fun _ _ _ h => h) (Or.inl ⟨by rfl, ?y8⟩) R0 ?r8
  case y8 =>
   intro w_ hS_
   go_simp
   try with_reducible rfl
  simp only [Act.put, List.getElem_toArray, List.getElem_cons_succ, List.getElem_cons_zero, List.setIfInBounds_toArray, List.set_cons_succ, List.set_cons_zero]
  refine wpAnyH_one (k := 5) (fuel := 3) (by kernel_rfl) rfl (by kernel_rfl) (fun K_ hK => ?_)
  refine wp_call_ex (f := 46) (by kernel_rfl) (cD y1) (fun v_ y2 hX_ => ?_)
  obtain ⟨rfl, hb_⟩ := hX_
  replace R0 := keep hb_ R0
  replace hw := Below.after hw hb_
  clear hb_
  refine hK _ _ R0 ?_
  simp only [Act.put, List.getElem_toArray, List.getElem_cons_succ, List.getElem_cons_zero, List.setIfInBounds_toArray, List.set_cons_succ, List.set_cons_zero]
  clear hK
  refine wpAnyH_take (i := 6) (v := .int .i64 (at_ + (H : Int) + (DL : Int))) rfl (by kernel_rfl) (by kernel_rfl) (by kernel_rfl) (fun _ _ _ h => h) (Or.inl ⟨by rfl, ?y9⟩) R0 ?r9
  case y9 =>
   intro w_ hS_
   go_simp
   try with_reducible rfl
  simp only [Act.put, List.getElem_toArray, List.getElem_cons_succ, List.getElem_cons_zero, List.setIfInBounds_toArray, List.set_cons_succ, List.set_cons_zero]
  refine wpAnyH_take (i := 10) (v := .int .i64 (at_ + (H : Int) + (DL : Int) + (dl : Int))) rfl (by kernel_rfl) (by kernel_rfl) (by kernel_rfl) (fun _ _ _ h => h) (Or.inl ⟨by rfl, ?y10⟩) R0 ?r10
  case y10 =>
   intro w_ hS_
   go_simp
   try with_reducible rfl
  simp only [Act.put, List.getElem_toArray, List.getElem_cons_succ, List.getElem_cons_zero, List.setIfInBounds_toArray, List.set_cons_succ, List.set_cons_zero]
  refine wpAnyH_take (i := 11) (v := ?v11) rfl (by kernel_rfl) (by kernel_rfl) (by kernel_rfl) (fun _ _ _ h => h) (Or.inl ⟨by rfl, ?y11⟩) R0 ?r11
  case y11 =>
   intro w_ hS_
   go_simp
   try with_reducible rfl
  simp only [Act.put, List.getElem_toArray, List.getElem_cons_succ, List.getElem_cons_zero, List.setIfInBounds_toArray, List.set_cons_succ, List.set_cons_zero]
  refine wpAnyH_done (by kernel_rfl) ?_ _
  refine NoPanic.normal ?_
  go_wp2_with (fail)
  go_ret
  exact ⟨_, rfl, by rw [e.out]; show Value.int .i64 (at_ + (H : Int) + (DL : Int) + (dl : Int)) = _; congr 1; omega, hw⟩
 ·have e := hide (hL5 t)
  subst t
  have c1 := cell_of_row _ _ 1 _ _ _ R0
  clear hL0 hL1 hL2 hL5 cN cD
  go_wp2_with (fail)
  go_ret
  exact ⟨_, rfl, by rw [e.out]; go_num, hw⟩
end Go.Proofs.YtalgcjkiajojoaaGreatDoor
namespace Go.Proofs.YtalgcjkiajojoaaGreatDoor
set_option maxRecDepth 100000
open Go Go.RowKit Go.Sort
/-! What is cut short. -/
end Go.Proofs.YtalgcjkiajojoaaGreatDoor
namespace Go.Proofs.YtalgcjkiajojoaaGreatDoor
set_option maxRecDepth 100000
open Go Go.RowKit Go.Sort
/-! Parts of a list of fields. -/
theorem gf_take (fs : List Fd) (k i : Nat) (h : i < k) : gf (fs.take k) i = gf fs i := by
 rw [gf, gf, List.getD_eq_getElem?_getD, List.getD_eq_getElem?_getD, List.getElem?_take_of_lt h]
theorem Fds.take {W : World} {ao : Option Addr} {cap l : Nat} {fs : List Fd} (h : Fds W (.slice ao l cap) fs) (k : Nat) (hk : k ≤ fs.length) : Fds W (.slice ao k cap) (fs.take k) := by
 obtain ⟨ao', cap', e, h1, h2, h3, h4⟩ := h
 cases e
 have hl : (fs.take k).length = k := by rw [List.length_take, Nat.min_eq_left hk]
 refine ⟨ao, cap, by rw [hl], by omega, by omega, h3, fun i hi => ?_⟩
 rw [hl] at hi
 rw [gf_take fs k i hi]
 exact h4 i (by omega)
theorem eer_ok {fs : List Fd} : eer fs = 0 ↔ fs.length ≤ 64 ∧ ech fs 0 = 0 ∧ (ebs fs).length ≤ 4194304 := by
 unfold eer
 by_cases h1 : 64 < fs.length
 ·rw [if_pos h1]
  constructor
  ·intro h; cases h
  ·intro h; omega
 rw [if_neg h1]
 by_cases h2 : ech fs 0 = 0
 ·rw [if_neg (by rw [h2]; simp)]
  by_cases h3 : 4194304 < (ebs fs).length
  ·rw [if_pos h3]
   constructor
   ·intro h; cases h
   ·intro h; omega
  ·rw [if_neg h3]
   exact ⟨fun _ => ⟨by omega, h2, by omega⟩, fun _ => rfl⟩
 ·rw [if_pos h2]
  exact ⟨fun h => absurd h h2, fun h => absurd h.2.1 h2⟩
theorem ebs_split (fs : List Fd) (c : Nat) : ebs fs = ebs (fs.take c) ++ ebs (fs.drop c) := by
 rw [← ebs_app, List.take_append_drop]
end Go.Proofs.YtalgcjkiajojoaaGreatDoor
namespace Go.Proofs.YtalgcjkiajojoaaGreatDoor
set_option maxRecDepth 100000
open Go Go.RowKit Go.Sort
attribute [local go_sem] setCell_drewN alloc_drewN
theorem infoVI : ∃ i, Tryz.prog.info? 27 = some i ∧ i.zero = some (.agg #[.int .u64 0, .slice none 0 0, .slice none 0 0]) ∧ i.size = 3 ∧ i.bytes = 56 := ⟨_, rfl, rfl, rfl, rfl⟩
theorem run_bv1 (x y z : Value) (W : World) : (Instr.buildSlice 25 1 #[(0, .agg #[x, y, z])]).run Tryz.prog W = .ok (.slice (some ⟨W.heap.size, 0, none⟩) 1 1) (W.alloc (.cells #[x, y, z] 27)) := by kernel_rfl
theorem op_bv1 {o : Oper} {a : Act} {w : World} (p : Operand) (ho : o.op = .buildSlice 25 1 #[(0, p)]) (x y z : Value) (hp : a.eval p = .agg #[x, y, z]) : (execOp a.eval o).run Tryz.prog w = .ok (.value (.slice (some ⟨w.heap.size, 0, none⟩) 1 1)) (w.alloc (.cells #[x, y, z] 27)) := by
 have hr := run_bv1 x y z w
 unfold execOp
 simp only [ho, Sem.run_bind, Sem.run_pure, List.map_toArray, List.map_cons, List.map_nil, hp, hr, Result.andThen_ok]
theorem ech_all : ∀ (fs : List Fd) (last : Int), 0 ≤ last → ech fs last = 0 → ∀ f ∈ fs, 0 ≤ f.no ∧ f.no ≤ 536870911 ∧ known f.ty ∧ fits f
 | [], _, _, _, f, hf => by simp at hf
 | g :: fs, last, h0, h, f, hf => by
  rw [ech] at h
  split at h
  ·rename_i hne
   exact absurd h hne
  ·rename_i hz
   have hz' : fck g last = 0 := by simpa using hz
   have hg : 0 ≤ g.no ∧ g.no ≤ 536870911 ∧ known g.ty ∧ fits g := by
    unfold fck at hz'
    split at hz'
    ·rename_i h1; exact absurd hz' h1
    ·rename_i h1
     have h1' : hck g last = 0 := by simpa using h1
     split at hz'
     ·rename_i h2
      unfold hck at h1'
      split at h1'
      ·omega
      ·rename_i h3
       split at h1'
       ·rename_i h4
        exact ⟨by omega, by omega, h4, h2⟩
       ·omega
     ·omega
   rcases List.mem_cons.1 hf with rfl | hf
   ·exact hg
   ·exact ech_all fs g.no hg.1 h f hf
theorem whl_pl {d : List B} : ∀ (k p : Nat) (last : Int) (c : Nat), p ≤ d.length → ∀ q e, (whl d k p last c).2 = some (q, e) → q ≤ d.length
 | 0, p, last, c, hp, q, e, h => by simp [whl] at h
 | k + 1, p, last, c, hp, q, e, h => by
  by_cases hlt : p < d.length
  ·rw [whl, if_pos hlt] at h
   cases hr : rh (d.drop p) last c with
   | er e' =>
    rw [hr] at h
    simp at h
    omega
   | ok no ty n =>
    rw [hr] at h
    simp only at h
    have h1 := rh_ok hr
    rw [List.length_drop] at h1
    cases hv : rv (d.drop (p + n)) ty with
    | er e' =>
     rw [hv] at h
     simp at h
     omega
    | ok num dat m =>
     rw [hv] at h
     have h2 := rv_ok hv
     rw [List.length_drop] at h2
     exact whl_pl k (p + n + m) no (c + 1) (by omega) q e h
  ·rw [whl, if_neg hlt] at h
   simp at h
theorem dpl_bd (d : List B) : 0 ≤ dpl (dwh d) ∧ dpl (dwh d) ≤ 4194304 := by
 unfold dpl dwh
 by_cases h : 4194304 < d.length
 ·rw [if_pos h]
  exact ⟨by decide, by decide⟩
 ·rw [if_neg h]
  have := whl_pl (d := d) d.length 0 0 0 (by omega)
  generalize (whl d d.length 0 0 0).2 = x at *
  cases x with
  | none => exact ⟨by decide, by decide⟩
  | some y =>
   obtain ⟨q, e⟩ := y
   have := this q e rfl
   simp only
   omega
theorem gf_mem {fs : List Fd} {i : Nat} (h : i < fs.length) : gf fs i ∈ fs := by
 rw [gf, List.getD_eq_getElem?_getD, List.getElem?_eq_getElem h]
 exact List.getElem_mem h
theorem ebs_take (fs : List Fd) (k : Nat) (h : k < fs.length) : (ebs (fs.take (k + 1))).length = (ebs (fs.take k)).length + (fby (gf fs k)).length := by
 rw [List.take_add_one, ebs_app, List.length_append, List.getElem?_eq_getElem h]
 simp [ebs_one, gf, List.getD_eq_getElem?_getD, List.getElem?_eq_getElem h]
theorem Fts.at {W : World} {b : Nat} {v : Value} {us : List Value} {fs : List Fd} (h : Fts W b v us fs) {i : Nat} (hi : i < fs.length) : ∃ g cap, v = .slice (some ⟨g, 0, none⟩) fs.length cap ∧ b ≤ g ∧ g < W.heap.size ∧ W.rangeAt g (i * 4) (frow (gf fs i) (gv us i)) := by
 obtain ⟨h1, h2, h3, _⟩ := h
 have h1' := h1
 obtain ⟨_, ⟨rfl, h0⟩ | ⟨g, cap, cur, rfl, hb, hg, hn, hm, hs, ht⟩⟩ := h1'
 ·omega
 ·refine ⟨g, cap, rfl, hb, lt_of_row hg, fun j x hx => ?_⟩
  have hj : j < 4 := by have := (List.getElem?_eq_some_iff.1 hx).1; exact this
  have := h1.cells (g := g) rfl (i * 4 + j) x (by rw [frs_at fs us i j h2 hi hj]; exact hx)
  rw [addr_add, Nat.zero_add] at this
  exact this
theorem wp_call_upW {P : Program} {o : Oper} {a : Act} {w : World} {K : Act → World → Prop} {Q : Exit → Act → World → Prop} {f : FuncId} {args : Array Value} (base : Nat) (F : Option Flt3) (R : Value → World → Prop) (B : World → Prop) (hx : (execOp a.eval o).run P w = .ok (.enter f args) w)
 (c : Calls P f args w fun e w' => Gup base F e w' (fun v => R v w') ∧ B w') (h : F = none → ∀ v w', R v w' → B w' → K (a.put o.dst v) w')
 (hp : ∀ x, F = some x → ∀ g w', base ≤ g → w'.heap[g]? = some (.cells (frw x) 43 (0, 0)) → B w' → Q (.panic [{ v := .iface 39 (.pointer (some ⟨g, 0, none⟩)), recovered := false }]) a w') : o.wp P a w K Q := by
 unfold Oper.wp
 rw [hx, Oper.upon_enter]
 refine c.mono fun e w' ⟨hG, hB⟩ => ?_
 cases F with
 | none =>
  obtain ⟨v, rfl, hv⟩ := hG
  exact h rfl v w' hv hB
 | some x =>
  obtain ⟨g, rfl, h1, h2⟩ := hG
  exact hp x rfl g w' h1 h2 hB
end Go.Proofs.YtalgcjkiajojoaaGreatDoor
namespace Go.Proofs.YtalgcjkiajojoaaGreatDoor
set_option maxRecDepth 100000
open Go Go.RowKit Go.Sort
attribute [local go_sem] setCell_drewN alloc_drewN
theorem But.setRow {g : Nat} (w : World) (cs : Array Value) : But g w (w.setRow g cs) := ⟨rfl, rfl, rfl, by simp, fun k _ hne => setRow_other w g k cs hne⟩
theorem But.keepBx {g : Nat} {w w' : World} (h : But g w w') {k : Nat} {c : Array Value} (hk : Bx w k c) (hne : k ≠ g) : Bx w' k c := by
 obtain ⟨T, hk⟩ := hk
 exact ⟨T, h.row hk hne⟩
theorem results_row_slot {P : Program} {fn : Func} {p q : Tmp} {ty : TypeId} (h : fn.results = #[.cell p ty, .tmp q]) (tmps : Array Value) (w : World) (g : Nat) (t : TypeId) (cs : Array Value) (fr : Nat × Nat) (d : TypeDesc) (v : Value)
 (hp : tmps.getD p undef = .pointer (some ⟨g, 0, none⟩)) (hg : w.heap[g]? = some (.cells cs t fr)) (hq : tmps.getD q undef = v)
 (hu : P.underlying ty = some d) (hd : (match d with | .struct _ | .array _ _ => true | _ => false) = true) (hi : (P.info? ty).map (·.size) = some cs.size) :
 (results fn tmps).run P w = .ok (.tuple #[.agg cs, v]) w := by
 have hp' : tmps[p]?.getD undef = .pointer (some ⟨g, 0, none⟩) := by simpa using hp
 have hq' : tmps[q]?.getD undef = v := by simpa using hq
 simp [results, h, hp', hq', asAddr, run_loadVar_row w g t ty cs fr d hg hu hd hi]
def CgtQ (base : Nat) (f : Option Flt3) (Q : World → Prop) (e : Ending) (w' : World) : Prop :=
 match f with
 | none => e = .returned .nilIface ∧ Q w'
 | some x => ∃ g, e = .returned (.iface 39 (.pointer (some ⟨g, 0, none⟩))) ∧ base ≤ g ∧ w'.heap[g]? = some (.cells (frw x) 43 (0, 0))
set_option maxRecDepth 100000 in
set_option maxHeartbeats 8000000 in
theorem a_caughtD (F : Option Flt3) (Q : World → Prop) (ca cb cc : Value) (bv : Nat) (w : World) (hbv : bv < w.heap.size)
 (hQ : ∀ V V', Q V → But w.heap.size V V' → Q V')
 (hD : ∀ V, Below w.heap.size w V → w.heap.size < V.heap.size → Calls Tryz.prog 22 #[ca, cb, cc] V fun e w' => Gup V.heap.size F e w' (fun v => v = .tuple #[] ∧ Q w') ∧ ((F ≠ none → Below V.heap.size V w') ∧ But bv V w')) :
 Calls Tryz.prog 21 #[.func (.func 22) #[] #[ca, cb, cc]] w fun e w' => CgtQ w.heap.size F Q e w' ∧ ((F ≠ none → Below w.heap.size w w') ∧ But bv w w') := by
 have h0 := hmf
 have hb0 : Below w.heap.size w (w.alloc (.cells #[.nilIface] 36)) := (Below.refl _ _).alloc (Nat.le_refl _) _
 have r0 := hp1_0 w (.cells #[.nilIface] 36)
 have cD := hD _ hb0 (by simp)
 clear hD
 go_enter_defers Tryz.func21, Tryz.ntmps21
 go_wp2_with (fail)
 refine cD.mono ?_
 rintro e_ w1 ⟨hG, hbn, hB⟩
 have r1 := hB.row r0 (by omega)
 have c1 : w1.cell? ⟨w.heap.size, 0, none⟩ = some .nilIface := by rw [cell_of_row _ _ _ _ _ _ r1]; rfl
 have f1 := row_frozen r1 0
 have hBw : But bv w w1 := (But.of hb0).trans hB
 cases F with
 | none =>
  obtain ⟨v, rfl, rfl, hQ1⟩ := hG
  have r2 := heap_setCell_same w1 w.heap.size 0 _ _ .nilIface r1
  have hB2 := But.set (g := w.heap.size) w1 .nilIface
  have hQ2 := hQ _ _ hQ1 hB2
  have hBF : But bv w (w1.setCell ⟨w.heap.size, 0, none⟩ .nilIface) := ⟨hB2.os.trans hBw.os, hB2.tape.trans hBw.tape, hB2.output.trans hBw.output, Nat.le_trans hBw.size hB2.size, fun k hk hne => (hB2.block k (Nat.lt_of_lt_of_le hk hBw.size) (by omega)).trans (hBw.block k hk hne)⟩
  have c2 : (w1.setCell ⟨w.heap.size, 0, none⟩ .nilIface).cell? ⟨w.heap.size, 0, none⟩ = some .nilIface := by rw [cell_of_row _ _ _ _ _ _ r2]; rfl
  go_wp2
  refine leaves_cons (f := 37) (args := #[.pointer (some ⟨w.heap.size, 0, none⟩)]) (by simp) (by simp [go_sem]) ?_
  refine (catch_idle ⟨w.heap.size, 0, none⟩ _).mono ?_
  rintro e u' w'' ⟨rfl, rfl, rfl⟩
  simp [Leaves, settle, results, Tryz.results21, go_sem, c2]
  exact ⟨⟨rfl, hQ2⟩, hBF⟩
 | some f =>
  obtain ⟨g, rfl, hg1, hg2⟩ := hG
  have hb1 := hbn (by simp)
  have hw := Below.after hb0 hb1
  have r2 := heap_setCell_same w1 w.heap.size 0 _ _ (.iface 39 (.pointer (some ⟨g, 0, none⟩))) r1
  have hw2 := hw.setCell (show w.heap.size ≤ (⟨w.heap.size, 0, none⟩ : Addr).block from Nat.le_refl _) (.iface 39 (.pointer (some ⟨g, 0, none⟩)))
  have c2 : (w1.setCell ⟨w.heap.size, 0, none⟩ (.iface 39 (.pointer (some ⟨g, 0, none⟩)))).cell? ⟨w.heap.size, 0, none⟩ = some (.iface 39 (.pointer (some ⟨g, 0, none⟩))) := by rw [cell_of_row _ _ _ _ _ _ r2]; rfl
  go_wp2
  refine leaves_cons (f := 37) (args := #[.pointer (some ⟨w.heap.size, 0, none⟩)]) (by simp) (by simp [go_sem]) ?_
  refine (catch_panicking ⟨w.heap.size, 0, none⟩ .nilIface g [] _ c1 f1).mono ?_
  rintro e u' w'' ⟨rfl, rfl, rfl⟩
  simp [Leaves, settle, results, Tryz.results21, go_sem, c2]
  rw [size_alloc1] at hg1
  exact ⟨⟨g, rfl, by omega, (heap_setCell_other w1 ⟨w.heap.size, 0, none⟩ g _ (show g ≠ w.heap.size by omega)).trans hg2⟩, hw2, But.of hw2⟩
end Go.Proofs.YtalgcjkiajojoaaGreatDoor
namespace Go.Proofs.YtalgcjkiajojoaaGreatDoor
set_option maxRecDepth 100000
open Go Go.RowKit Go.Sort
attribute [local go_sem] setCell_drewN alloc_drewN
/-! What decode finds, and what it reads, on trees. -/
section
variable (utf : List B → Bool) (flE : Nat → Nat → Int)
def ftN (k : Int) (l m : Nat) (f : Fd) : Int := plE8 utf flE k l m (.mk f.num f.dat [])
def itN (dec : List B → Int → Option Flt3) : List (List B) → Int → Option Flt3
 | [], _ => none
 | b :: bs, from_ => match dec b (from_ + ((en b.length).length : Int)) with
  | some e => some e
  | none => itN dec bs (from_ + ((en b.length).length : Int) + (b.length : Int))
def lsN (l m : Nat) (dec : List B → Int → Option Flt3) (d : List B) (at_ from_ : Int) : Option Flt3 :=
 if spe (sp d) ≠ 0 then some ⟨0, from_ + spa (sp d), spe (sp d)⟩
 else if wth ((spp (sp d)).length : Int) (l : Int) (m : Int) ≠ 0 then some ⟨0, at_, wth ((spp (sp d)).length : Int) (l : Int) (m : Int)⟩
 else itN dec (spp (sp d)) from_
def rdN (k : Int) (l m : Nat) (dec : List B → Int → Option Flt3) (f : Fd) (at_ : Int) : Option Flt3 :=
 if k = 8 then dec f.dat (at_ + ((fby f).length : Int) - (f.dat.length : Int))
 else if k = 9 then lsN l m dec f.dat at_ (at_ + ((fby f).length : Int) - (f.dat.length : Int))
 else rdE at_ (ftN utf flE k l m f)
def dsN (no k : Int) (l m : Nat) (dec : List B → Int → Option Flt3) (f : Fd) (at_ : Int) : Option Flt3 := if f.no ≠ no then some ⟨0, at_, 81⟩ else if f.ty ≠ wtA k then some ⟨0, at_, 82⟩ else rdN utf flE k l m dec f at_
def decN (g : List Fd → Int → Option Flt3) (b : List B) (from_ : Int) : Option Flt3 := if der (dwh b) ≠ 0 then some ⟨0, from_ + dpl (dwh b), der (dwh b)⟩ else g (dfs (dwh b)) from_
def dcT : List Slt → List Fd → Int → Option Flt3
 | [], [], _ => none
 | [], _ :: _, at_ => some ⟨0, at_, 81⟩
 | _ :: _, [], at_ => some ⟨0, at_, 81⟩
 | .mk no k l m sub :: ts, f :: fs, at_ => match dsN utf flE no k l m (decN (dcT sub)) f at_ with
  | some x => some x
  | none => dcT ts fs (at_ + ((fby f).length : Int))
def deT (ts : List Slt) (b : List B) (from_ : Int) : Option Flt3 := decN (dcT utf flE ts) b from_
def dsT (t : Slt) (f : Fd) (at_ : Int) : Option Flt3 := dsN utf flE t.no t.kind t.least t.most (deT utf flE t.sub) f at_
def rdT (t : Slt) (f : Fd) (at_ : Int) : Option Flt3 := rdN utf flE t.kind t.least t.most (deT utf flE t.sub) f at_
theorem dcT_cons (t : Slt) (ts : List Slt) (f : Fd) (fs : List Fd) (at_ : Int) : dcT utf flE (t :: ts) (f :: fs) at_ = match dsT utf flE t f at_ with
 | some x => some x
 | none => dcT utf flE ts fs (at_ + ((fby f).length : Int)) := by
 cases t
 rw [dcT]
 rfl
theorem dcT_step {ts : List Slt} {fs : List Fd} {at_ : Int} {k : Nat} (h1 : k < ts.length) (h2 : k < fs.length) : dcT utf flE (ts.drop k) (fs.drop k) at_ = match dsT utf flE (gs ts k) (gf fs k) at_ with
 | some x => some x
 | none => dcT utf flE (ts.drop (k + 1)) (fs.drop (k + 1)) (at_ + ((fby (gf fs k)).length : Int)) := by
 rw [sdrop ts k h1, fdrop fs k h2, dcT_cons]
theorem dcT_short {ts : List Slt} {fs : List Fd} {at_ : Int} {k : Nat} (h1 : k < ts.length) (h2 : fs.length = k) : dcT utf flE (ts.drop k) (fs.drop k) at_ = some ⟨0, at_, 81⟩ := by
 rw [sdrop ts k h1, List.drop_of_length_le (show fs.length ≤ k by omega), dcT]
theorem dcT_long {ts : List Slt} {fs : List Fd} {at_ : Int} {k : Nat} (h1 : ts.length = k) (h2 : k < fs.length) : dcT utf flE (ts.drop k) (fs.drop k) at_ = some ⟨0, at_, 81⟩ := by
 rw [List.drop_of_length_le (by omega : ts.length ≤ k), fdrop fs k h2, dcT]
theorem dcT_end {ts : List Slt} {fs : List Fd} {at_ : Int} {k : Nat} (h1 : ts.length = k) (h2 : fs.length = k) : dcT utf flE (ts.drop k) (fs.drop k) at_ = none := by
 rw [List.drop_of_length_le (by omega : ts.length ≤ k), List.drop_of_length_le (by omega : fs.length ≤ k), dcT]
end
def vlN (k : Int) (dv : List B → VT) (f : Fd) : VT := if k = 8 then dv f.dat else if k = 9 then .mk 0 [] ((spp (sp f.dat)).map dv) else .mk f.num f.dat []
def vlT : List Slt → List Fd → List VT
 | .mk _ k _ _ sub :: ts, f :: fs => vlN k (fun b => .mk 0 [] (vlT sub (dfs (dwh b)))) f :: vlT ts fs
 | _, _ => []
def mgT (ts : List Slt) (b : List B) : VT := .mk 0 [] (vlT ts (dfs (dwh b)))
def vlS (t : Slt) (f : Fd) : VT := vlN t.kind (mgT t.sub) f
theorem vlT_cons (t : Slt) (ts : List Slt) (f : Fd) (fs : List Fd) : vlT (t :: ts) (f :: fs) = vlS t f :: vlT ts fs := by
 cases t
 rw [vlT]
 rfl
theorem vlT_nil (fs : List Fd) : vlT [] fs = [] := by rw [vlT]; intros; contradiction
theorem vlT_len : ∀ (ts : List Slt) (fs : List Fd), ts.length = fs.length → (vlT ts fs).length = ts.length
 | [], [], _ => by rw [vlT_nil]; rfl
 | t :: ts, f :: fs, h => by rw [vlT_cons, List.length_cons, List.length_cons, vlT_len ts fs (by simpa using h)]
 | [], _ :: _, h => by simp at h
 | _ :: _, [], h => by simp at h
theorem vlT_take : ∀ (ts : List Slt) (fs : List Fd) (k : Nat), k < ts.length → k < fs.length → vlT (ts.take (k + 1)) (fs.take (k + 1)) = vlT (ts.take k) (fs.take k) ++ [vlS (gs ts k) (gf fs k)]
 | [], _, _, h, _ => by simp at h
 | _ :: _, [], _, _, h => by simp at h
 | t :: ts, f :: fs, 0, _, _ => by
  rw [List.take_succ_cons, List.take_succ_cons, List.take_zero, List.take_zero, vlT_cons, List.take_zero, List.take_zero, vlT_nil]
  rfl
 | t :: ts, f :: fs, k + 1, h, hk => by
  rw [List.take_succ_cons, List.take_succ_cons, vlT_cons, vlT_take ts fs k (by simpa using h) (by simpa using hk), List.take_succ_cons, List.take_succ_cons, vlT_cons]
  rfl
def vrs : List VR → List Value
 | [] => []
 | x :: xs => (vrv x).toList ++ vrs xs
theorem vrs_snoc : ∀ (xs : List VR) (x : VR), vrs (xs ++ [x]) = vrs xs ++ (vrv x).toList
 | [], x => by simp [vrs]
 | y :: xs, x => by rw [List.cons_append, vrs, vrs, vrs_snoc xs x, List.append_assoc]
theorem vrs_at : ∀ (xs : List VR) (i j : Nat), i < xs.length → j < 3 → (vrs xs)[i * 3 + j]? = (vrv (gx xs i)).toList[j]?
 | [], _, _, h, _ => by simp at h
 | x :: xs, 0, j, _, hj => by
  rw [vrs, Nat.zero_mul, Nat.zero_add, List.getElem?_append_left (by show j < 3; exact hj)]
  rfl
 | x :: xs, i + 1, j, h, hj => by
  rw [vrs, List.getElem?_append_right (by show 3 ≤ _; omega)]
  have : (i + 1) * 3 + j - (vrv x).toList.length = i * 3 + j := by show _ - 3 = _; omega
  rw [this, vrs_at xs i j (by simpa using h) hj]
  rfl
def PaW (W : World) (lo base : Nat) (v : Value) (xs : List VR) (ps : List VT) : Prop :=
 W.ownsRow base 27 3 v ps.length (vrs xs) ∧ xs.length = ps.length ∧ ∀ i, i < ps.length → VtM W (fun b => lo ≤ b ∧ v.ownBlock ≠ some b) (gx xs i) (gvt ps i)
theorem paw_nil (W : World) (lo base : Nat) : PaW W lo base (.slice none 0 0) [] [] := ⟨⟨rfl, .inl ⟨rfl, rfl⟩⟩, rfl, fun i hi => by simp at hi⟩
theorem PaW.keep {W V : World} {lo base : Nat} {v : Value} {xs : List VR} {ps : List VT} (h : PaW W lo base v xs ps) (hb : Below W.heap.size W V) : PaW V lo base v xs ps :=
 ⟨own_keep_row h.1 hb, h.2.1, fun i hi => (h.2.2 i hi).blw hb⟩
theorem gx_lo {xs : List VR} {x : VR} {i : Nat} (h : i < xs.length) : gx (xs ++ [x]) i = gx xs i := by
 rw [gx, gx, List.getD_eq_getElem?_getD, List.getElem?_append_left h, ← List.getD_eq_getElem?_getD]
theorem gx_hi {xs : List VR} {x : VR} : gx (xs ++ [x]) xs.length = x := by
 rw [gx, List.getD_eq_getElem?_getD, List.getElem?_append_right (Nat.le_refl _), Nat.sub_self]; rfl
theorem gvt_lo {xs : List VT} {x : VT} {i : Nat} (h : i < xs.length) : gvt (xs ++ [x]) i = gvt xs i := by
 rw [gvt, gvt, List.getD_eq_getElem?_getD, List.getElem?_append_left h, ← List.getD_eq_getElem?_getD]
theorem gvt_hi {xs : List VT} {x : VT} : gvt (xs ++ [x]) xs.length = x := by
 rw [gvt, List.getD_eq_getElem?_getD, List.getElem?_append_right (Nat.le_refl _), Nat.sub_self]; rfl
theorem PaW.snoc {W W' : World} {lo base : Nat} {v v' : Value} {xs : List VR} {ps : List VT} {x : VR} {X : VT} (h : PaW W lo base v xs ps) (hx : VtM W (fun b => lo ≤ b ∧ v.ownBlock ≠ some b) x X)
 (ho : W'.ownsRow base 27 3 v' (ps.length + 1) (vrs xs ++ (vrv x).toList)) (hg : W.grownBy W' v.ownBlock) (hk : Nx W v v') : PaW W' lo base v' (xs ++ [x]) (ps ++ [X]) := by
 have hst : Sty W W' (fun b => lo ≤ b ∧ v.ownBlock ≠ some b) (fun b => lo ≤ b ∧ v'.ownBlock ≠ some b) := ⟨hg.size, fun b hb hS => ⟨hg.block b hb (fun e => hS.2 e.symm), hS.1, fun e => by
  rcases hk with q | ⟨k, q, q2⟩
  ·exact hS.2 (q.symm.trans e)
  ·rw [q] at e
   injection e with e
   omega⟩⟩
 have h21 := h.2.1
 refine ⟨by rw [List.length_append, List.length_singleton, vrs_snoc]; exact ho, by rw [List.length_append, List.length_append, h21]; rfl, fun i hi => ?_⟩
 rw [List.length_append, List.length_singleton] at hi
 rcases Nat.lt_or_ge i ps.length with q | q
 ·rw [gx_lo (by omega), gvt_lo q]
  exact (h.2.2 i q).keep hst
 ·obtain rfl : i = ps.length := by omega
  rw [gvt_hi, ← h21, gx_hi]
  exact hx.keep hst
theorem PaW.msg {W : World} {lo base : Nat} {v : Value} {xs : List VR} {ps : List VT} (h : PaW W lo base v xs ps) (hl : lo ≤ base) (hm : ps.length ≤ 5864062014634) : ∃ pa pc, v = .slice pa ps.length pc ∧ VtM W (fun b => lo ≤ b) ⟨0, none, 0, 0, pa, ps.length, pc⟩ (.mk 0 [] ps) := by
 obtain ⟨h1, h2, h3⟩ := h
 have h1' := h1
 have hB0 : BysB W (.slice none 0 0) ([] : List B) := ⟨⟨none, 0, rfl, by decide, fun j hj => by simp [bl] at hj, by simp [bl]⟩, by decide, fun a l c e _ => by cases e; rfl⟩
 have hs : ∀ i, i < ps.length → VtM W (fun b => lo ≤ b) (gx xs i) (gvt ps i) := fun i hi => (h3 i hi).keep ⟨Nat.le_refl _, fun b _ hS => ⟨rfl, hS.1⟩⟩
 obtain ⟨_, ⟨rfl, h0⟩ | ⟨g, cap, cur, rfl, hb, hg, hn, hmx, hsz, ht⟩⟩ := h1'
 ·refine ⟨none, 0, by rw [h0], .mk ⟨0, none, 0, 0, none, ps.length, 0⟩ [] xs ps (by show 0 < 18446744073709551616; decide) rfl (by decide) hB0 (Nat.le_refl _) (fun a e => by cases lv_some e) rfl h2 (by omega) hm (fun a e => by cases lv_some e) (fun i hi => by omega) hs⟩
 ·refine ⟨some ⟨g, 0, none⟩, cap, rfl, .mk ⟨0, none, 0, 0, some ⟨g, 0, none⟩, ps.length, cap⟩ [] xs ps (by show 0 < 18446744073709551616; decide) rfl (by decide) hB0 (Nat.le_refl _) (fun a e => by cases lv_some e) rfl h2 hn hm (fun a e => by cases lv_some e; exact ⟨Nat.le_trans hl hb, lt_of_row hg⟩) (fun i hi => ⟨g, 0, rfl, fun j x hx => ?_⟩) hs⟩
  have hj : j < 3 := by have := (List.getElem?_eq_some_iff.1 hx).1; exact this
  have := h1.cells (g := g) rfl (i * 3 + j) x (by rw [vrs_at xs i j (by omega) hj]; exact hx)
  rw [add_off] at this
  rw [← this, Nat.zero_add]
end Go.Proofs.YtalgcjkiajojoaaGreatDoor
namespace Go.Proofs.YtalgcjkiajojoaaGreatDoor
set_option maxRecDepth 100000
open Go Go.RowKit Go.Sort
attribute [local go_sem] setCell_drewN alloc_drewN
structure Fdk (W : World) (P : Nat → Prop) (f : Fd) (da : Option Addr) (dc : Nat) (at_ : Int) : Prop where
 hB : BysB W (.slice da f.dat.length dc) f.dat
 hc : f.dat.length ≤ dc
 hi : InS W P da
 ok : Fok f
 no0 : 0 ≤ f.no
 no1 : f.no ≤ 536870911
 kn : known f.ty
 fb : (fby f).length ≤ 4194304
 a0 : 0 ≤ at_
 a1 : at_ + ((fby f).length : Int) ≤ 1152921504606846976
theorem Fdk.keep {W V : World} {P : Nat → Prop} {f : Fd} {da : Option Addr} {dc : Nat} {at_ : Int} (h : Fdk W P f da dc at_) (hb : Below W.heap.size W V) : Fdk V P f da dc at_ :=
 ⟨h.hB.keep hb, h.hc, fun a e => ⟨(h.hi a e).1, Nat.lt_of_lt_of_le (h.hi a e).2 hb.size⟩, h.ok, h.no0, h.no1, h.kn, h.fb, h.a0, h.a1⟩
def RdR (w : World) (P : Nat → Prop) (F : Option Flt3) (X : VT) (e : Ending) (w' : World) : Prop := Gup w.heap.size F e w' (fun v => ∃ x, v = .agg (vrv x) ∧ VtM w' (fun b => P b ∨ w.heap.size ≤ b) x X) ∧ Below w.heap.size w w'
theorem fby_dat {f : Fd} (h : f.ty = 2) : f.dat.length ≤ (fby f).length := by
 rw [fby, List.length_append, fvl, if_neg (by omega), if_neg (by omega), if_neg (by omega), itm_len]
 omega
theorem plain_tree {W : World} {P : Nat → Prop} {f : Fd} {da : Option Addr} {dc : Nat} {at_ : Int} (h : Fdk W P f da dc at_) {V : World} (hb : Below W.heap.size W V) {Q : Nat → Prop} (hQ : ∀ b, P b → Q b) : VtM V Q ⟨f.num, da, f.dat.length, dc, none, 0, 0⟩ (.mk f.num f.dat []) :=
 .mk ⟨f.num, da, f.dat.length, dc, none, 0, 0⟩ f.dat [] [] h.ok.1 rfl h.ok.2.1 (h.hB.keep hb) h.hc (fun a e => ⟨hQ _ (h.hi a (lv_some e)).1, Nat.lt_of_lt_of_le (h.hi a (lv_some e)).2 hb.size⟩) rfl rfl (Nat.le_refl 0) (by decide) (fun a e => by cases lv_some e) (fun i hi => by simp at hi) (fun i hi => by simp at hi)
theorem VtM.wid {W : World} {S T : Nat → Prop} {x : VR} {X : VT} (h : VtM W S x X) (hk : ∀ b, S b → T b) : VtM W T x X := h.keep ⟨Nat.le_refl _, fun b _ hS => ⟨rfl, hk b hS⟩⟩
theorem VtM.other {W : World} {S T : Nat → Prop} {x : VR} {X : VT} (h : VtM W S x X) (g : Nat) (cs : Array Value) (hk : ∀ b, S b → b ≠ g ∧ T b) : VtM (W.setRow g cs) T x X := h.keep ⟨by simp, fun b _ hS => ⟨setRow_other W g b cs (hk b hS).1, (hk b hS).2⟩⟩
theorem wpList_call_upW {P : Program} {ops : Array Oper} {rest : List Oper} {o : Oper} {a : Act} {w : World} {Q : Exit → Act → World → Prop} {f : FuncId} {args : Array Value} (base : Nat) (F : Option Flt3) (R : Value → World → Prop) (B : World → Prop) (hgd : o.guard = none) (hx : (execOp a.eval o).run P w = .ok (.enter f args) w)
 (c : Calls P f args w fun e w' => Gup base F e w' (fun v => R v w') ∧ B w') (h : F = none → ∀ v w', R v w' → B w' → wpList P ops Q rest (a.put o.dst v) w')
 (hp : ∀ x, F = some x → ∀ g w', base ≤ g → w'.heap[g]? = some (.cells (frw x) 43 (0, 0)) → B w' → Q (.panic [{ v := .iface 39 (.pointer (some ⟨g, 0, none⟩)), recovered := false }]) a w') : wpList P ops Q (o :: rest) a w :=
 wpList_plain hgd fun _ hK => wp_call_upW base F R B hx c (fun hF v w' hR hB => hK _ _ (h hF v w' hR hB)) hp
set_option maxRecDepth 100000 in
set_option maxHeartbeats 8000000 in
theorem a_dataOf (f : Fd) (ao : Option Addr) (cap : Nat) (at_ : Int) (hat : 0 ≤ at_ ∧ at_ ≤ 1152921504606846976) (hf : Fok f) (h0 : 0 ≤ f.no) (h1 : f.no ≤ 536870911) (hk : known f.ty) (hFB : (fby f).length ≤ 4194304) (w : World) : Calls Tryz.prog 74 #[.agg #[.int .i64 f.no, .int .i64 f.ty, .int .u64 (f.num : Int), .slice ao f.dat.length cap], .int .i64 at_] w fun e w' => e = .returned (.int .i64 (at_ + ((fby f).length : Int) - (f.dat.length : Int))) ∧ Below w.heap.size w w' := by
 have cE := a_endOf f ao cap at_ ⟨hat.1, by omega⟩ hf h0 h1 hk
 have hdl := hf.2.1
 clear hf h0 h1 hk
 generalize (fby f).length = FL at *
 generalize f.no = fno at *
 generalize f.ty = fty at *
 generalize f.num = num at *
 generalize f.dat.length = dl at *
 clear f
 have R0 := hp1_0 w (.cells #[.int .i64 fno, .int .i64 fty, .int .u64 (num : Int), .slice ao dl cap] 107)
 have hw : Below w.heap.size w (w.alloc (.cells #[.int .i64 fno, .int .i64 fty, .int .u64 (num : Int), .slice ao dl cap] 107)) := (Below.refl _ _).alloc (Nat.le_refl _) _
 go_enter Tryz.func74, Tryz.ntmps74
 go_upto_region 1 with (fail)
 generalize w.alloc (.cells #[.int .i64 fno, .int .i64 fty, .int .u64 (num : Int), .slice ao dl cap] 107) = w1 at *
 have hbd : Below w1.heap.size w1 w1.drew := below_drN (Below.refl _ _) 1
 replace R0 := keep hbd R0
 replace hw := Below.after hw hbd
 clear hbd
 have q1 : IntKind.wrap .i64 (at_ + (FL : Int) - (dl : Int)) = at_ + (FL : Int) - (dl : Int) := by rw [IntKind.wrap_i64]; omega
 refine wp_region_noPanic ?_
 refine wp_region_held (S := fun W : World => W.heap[w.heap.size]? = some (.cells #[.int .i64 fno, .int .i64 fty, .int .u64 (num : Int), .slice ao dl cap] 107 (0, 0))) (by kernel_rfl) ?_
 change wpAnyH _ _ _ _ _ _ _ _ (World.drew _)
 generalize w1.drew = y1 at *
 refine wpAnyH_take (i := 0) (v := .agg #[.int .i64 fno, .int .i64 fty, .int .u64 (num : Int), .slice ao dl cap]) rfl (by kernel_rfl) (by kernel_rfl) (by kernel_rfl) (fun _ _ _ h => h) (yieldsIf_load_mid (by rfl) 107 _ rfl (w.heap.size) 0 rfl [.int .i64 fno, .int .i64 fty, .int .u64 (num : Int), .slice ao dl cap] _ (fun _ h => range_row ⟨_, h⟩) Tryz.underlying107 rfl infoFi) R0 ?_
 simp only [Act.put, List.getElem_toArray, List.getElem_cons_zero, List.setIfInBounds_toArray, List.set_cons_succ, List.set_cons_zero]
 refine wpAnyH_take (i := 1) (v := .int .i64 at_) rfl (by kernel_rfl) (by kernel_rfl) (by kernel_rfl) (fun _ _ _ h => h) (Or.inl ⟨by rfl, ?y1do⟩) R0 ?r1do
 case y1do =>
  intro w_ hS_
  skip
  go_simp
  try with_reducible rfl
 simp only [Act.put, List.getElem_toArray, List.getElem_cons_succ, List.getElem_cons_zero, List.setIfInBounds_toArray, List.set_cons_succ, List.set_cons_zero]
 refine wpAnyH_take (i := 3) (v := ?vfb) rfl (by kernel_rfl) (by kernel_rfl) (by kernel_rfl) (fun _ _ _ h => h) (Or.inl ⟨by rfl, ?y2do⟩) R0 ?r2do
 case y2do =>
  intro w_ hS_
  skip
  go_simp
  try with_reducible rfl
 simp only [Act.put, List.getElem_toArray, List.getElem_cons_succ, List.getElem_cons_zero, List.setIfInBounds_toArray, List.set_cons_succ, List.set_cons_zero]
 refine wpAnyH_take (i := 4) (v := .slice ao dl cap) rfl (by kernel_rfl) (by kernel_rfl) (by kernel_rfl) (fun _ _ _ h => h) (Or.inl ⟨by rfl, ?y3do⟩) R0 ?r3do
 case y3do =>
  intro w_ hS_
  have c_ := cell_of_row _ _ 3 _ _ _ hS_
  go_simp
  try with_reducible rfl
 simp only [Act.put, List.getElem_toArray, List.getElem_cons_succ, List.getElem_cons_zero, List.setIfInBounds_toArray, List.set_cons_succ, List.set_cons_zero]
 refine wpAnyH_take (i := 5) (v := .int .i64 (dl : Int)) rfl (by kernel_rfl) (by kernel_rfl) (by kernel_rfl) (fun _ _ _ h => h) (Or.inl ⟨by rfl, ?y4do⟩) R0 ?r4do
 case y4do =>
  intro w_ hS_
  skip
  go_simp
  try with_reducible rfl
 simp only [Act.put, List.getElem_toArray, List.getElem_cons_succ, List.getElem_cons_zero, List.setIfInBounds_toArray, List.set_cons_succ, List.set_cons_zero]
 refine wpAnyH_one (k := 2) (fuel := 2) (by kernel_rfl) rfl (by kernel_rfl) (fun K_ hK => ?_)
 refine wp_call_ex (f := 41) (by kernel_rfl) (cE y1) (fun v_ y2 hX_ => ?_)
 obtain ⟨rfl, hb_⟩ := hX_
 replace R0 := keep hb_ R0
 replace hw := Below.after hw hb_
 clear hb_
 refine hK _ _ R0 ?_
 simp only [Act.put, List.getElem_toArray, List.getElem_cons_succ, List.getElem_cons_zero, List.setIfInBounds_toArray, List.set_cons_succ, List.set_cons_zero]
 clear hK
 refine wpAnyH_take (i := 6) (v := .int .i64 (at_ + (FL : Int) - (dl : Int))) rfl (by kernel_rfl) (by kernel_rfl) (by kernel_rfl) (fun _ _ _ h => h) (Or.inl ⟨by rfl, ?y5do⟩) R0 ?r5do
 case y5do =>
  intro w_ hS_
  skip
  go_simp
  try with_reducible rfl
 simp only [Act.put, List.getElem_toArray, List.getElem_cons_succ, List.getElem_cons_zero, List.setIfInBounds_toArray, List.set_cons_succ, List.set_cons_zero]
 refine wpAnyH_take (i := 7) (v := ?vfc) rfl (by kernel_rfl) (by kernel_rfl) (by kernel_rfl) (fun _ _ _ h => h) (Or.inl ⟨by rfl, ?y6do⟩) R0 ?r6do
 case y6do =>
  intro w_ hS_
  skip
  go_simp
  try with_reducible rfl
 simp only [Act.put, List.getElem_toArray, List.getElem_cons_succ, List.getElem_cons_zero, List.setIfInBounds_toArray, List.set_cons_succ, List.set_cons_zero]
 refine wpAnyH_done (by kernel_rfl) ?_ _
 refine NoPanic.normal ?_
 go_wp2_with (fail)
 go_ret
 exact ⟨rfl, hw⟩
set_option maxRecDepth 100000 in
set_option maxHeartbeats 8000000 in
theorem a_inner3 (P : Nat → Prop) (f : Fd) (da : Option Addr) (dc : Nat) (at_ : Int) (g : Nat) (so : Option Addr) (sn sc : Nat) (w : World) (F : Option Flt3) (X : VT) (hf : Fdk w P f da dc at_) (hg : Bx w g #[.slice so sn sc])
 (hC : ∀ V, Below w.heap.size w V → Calls Tryz.prog 23 #[.slice so sn sc, .slice da f.dat.length dc, .int .i64 (at_ + ((fby f).length : Int) - (f.dat.length : Int))] V fun e w' => Gup V.heap.size F e w' (fun v => ∃ x, v = .agg (vrv x) ∧ VtM w' (fun b => V.heap.size ≤ b) x X) ∧ Below V.heap.size V w') :
 Calls Tryz.prog 73 #[.agg #[.int .i64 f.no, .int .i64 f.ty, .int .u64 (f.num : Int), .slice da f.dat.length dc], .int .i64 at_, ptr g] w (RdR w P F X) := by
 have cD := a_dataOf f da dc at_ ⟨hf.a0, by have := hf.a1; omega⟩ hf.ok hf.no0 hf.no1 hf.kn hf.fb
 clear hf
 generalize at_ + ((fby f).length : Int) - (f.dat.length : Int) = A at *
 generalize f.no = fno at *
 generalize f.ty = fty at *
 generalize f.num = num at *
 generalize f.dat.length = dl at *
 clear f
 have r0 := hp2_0 w (.cells #[.int .i64 fno, .int .i64 fty, .int .u64 (num : Int), .slice da dl dc] 107) (.cells #[.int .u64 0, .slice none 0 0, .slice none 0 0] 27)
 have r1 := hp2_1 w (.cells #[.int .i64 fno, .int .i64 fty, .int .u64 (num : Int), .slice da dl dc] 107) (.cells #[.int .u64 0, .slice none 0 0, .slice none 0 0] 27)
 have hb : Below w.heap.size w ((w.alloc (.cells #[.int .i64 fno, .int .i64 fty, .int .u64 (num : Int), .slice da dl dc] 107)).alloc (.cells #[.int .u64 0, .slice none 0 0, .slice none 0 0] 27)) := ((Below.refl _ _).alloc (Nat.le_refl _) _).alloc (by simp) _
 have hg0 := hg.keep hb
 unfold ptr
 go_enter Tryz.func73, Tryz.ntmps73
 go_upto_region 1 with (fail)
 have hz : w.heap.size + 1 < ((w.alloc (.cells #[.int .i64 fno, .int .i64 fty, .int .u64 (num : Int), .slice da dl dc] 107)).alloc (.cells #[.int .u64 0, .slice none 0 0, .slice none 0 0] 27)).heap.size := by simp
 generalize (w.alloc (.cells #[.int .i64 fno, .int .i64 fty, .int .u64 (num : Int), .slice da dl dc] 107)).alloc (.cells #[.int .u64 0, .slice none 0 0, .slice none 0 0] 27) = w0 at *
 have hbd : Below w0.heap.size w0 w0.drew := below_drN (Below.refl _ _) 1
 have hS0 : (fun W_ : World => Bx W_ w.heap.size #[.int .i64 fno, .int .i64 fty, .int .u64 (num : Int), .slice da dl dc] ∧ Bx W_ g #[.slice so sn sc]) w0.drew := ⟨⟨_, keep hbd r0⟩, hg0.keep hbd⟩
 refine wp_region_held (S := fun W_ : World => Bx W_ w.heap.size #[.int .i64 fno, .int .i64 fty, .int .u64 (num : Int), .slice da dl dc] ∧ Bx W_ g #[.slice so sn sc]) (by kernel_rfl) ?_
 change wpAnyH _ _ _ _ _ _ _ _ (World.drew _)
 replace r1 := keep hbd r1
 replace hz := Nat.lt_of_lt_of_le hz hbd.size
 replace hb := Below.after hb hbd
 clear hg0 hbd r0
 generalize w0.drew = w1 at *
 refine wpAnyH_take (i := 0) (v := .slice so sn sc) rfl (by kernel_rfl) (by kernel_rfl) (by kernel_rfl) (fun _ _ _ h => h) (Or.inl ⟨by rfl, ?y1in⟩) hS0 ?r1in
 case y1in =>
  intro w_ hS_
  obtain ⟨_, h_⟩ := hS_.2
  have c_ := cell_of_row _ _ 0 _ _ _ h_
  go_simp
  try with_reducible rfl
 simp only [Act.put, List.getElem_toArray, List.getElem_cons_zero, List.setIfInBounds_toArray, List.set_cons_succ, List.set_cons_zero]
 refine wpAnyH_take (i := 1) (v := ?vfa) rfl (by kernel_rfl) (by kernel_rfl) (by kernel_rfl) (fun _ _ _ h => h) (Or.inl ⟨by rfl, ?y2in⟩) hS0 ?r2in
 case y2in =>
  intro w_ hS_
  skip
  go_simp
  try with_reducible rfl
 simp only [Act.put, List.getElem_toArray, List.getElem_cons_succ, List.getElem_cons_zero, List.setIfInBounds_toArray, List.set_cons_succ, List.set_cons_zero]
 refine wpAnyH_take (i := 2) (v := .slice da dl dc) rfl (by kernel_rfl) (by kernel_rfl) (by kernel_rfl) (fun _ _ _ h => h) (Or.inl ⟨by rfl, ?y3in⟩) hS0 ?r3in
 case y3in =>
  intro w_ hS_
  obtain ⟨_, h_⟩ := hS_.1
  have c_ := cell_of_row _ _ 3 _ _ _ h_
  go_simp
  try with_reducible rfl
 simp only [Act.put, List.getElem_toArray, List.getElem_cons_succ, List.getElem_cons_zero, List.setIfInBounds_toArray, List.set_cons_succ, List.set_cons_zero]
 refine wpAnyH_take (i := 3) (v := .agg #[.int .i64 fno, .int .i64 fty, .int .u64 (num : Int), .slice da dl dc]) rfl (by kernel_rfl) (by kernel_rfl) (by kernel_rfl) (fun _ _ _ h => h) (yieldsIf_load_mid (by rfl) 107 _ rfl (w.heap.size) 0 rfl [.int .i64 fno, .int .i64 fty, .int .u64 (num : Int), .slice da dl dc] _ (fun _ h => range_row h.1) Tryz.underlying107 rfl infoFi) hS0 ?_
 simp only [Act.put, List.getElem_toArray, List.getElem_cons_succ, List.getElem_cons_zero, List.setIfInBounds_toArray, List.set_cons_succ, List.set_cons_zero]
 refine wpAnyH_take (i := 4) (v := .int .i64 at_) rfl (by kernel_rfl) (by kernel_rfl) (by kernel_rfl) (fun _ _ _ h => h) (Or.inl ⟨by rfl, ?y4in⟩) hS0 ?r4in
 case y4in =>
  intro w_ hS_
  skip
  go_simp
  try with_reducible rfl
 simp only [Act.put, List.getElem_toArray, List.getElem_cons_succ, List.getElem_cons_zero, List.setIfInBounds_toArray, List.set_cons_succ, List.set_cons_zero]
 refine wpAnyH_one (k := 5) (fuel := 2) (by kernel_rfl) rfl (by kernel_rfl) (fun K_ hK => ?_)
 refine wp_call_ex (R := fun u w' => u = .int .i64 A ∧ Below w1.heap.size w1 w') (by kernel_rfl) ((cD w1).mono fun e w' h => ⟨_, h.1, rfl, h.2⟩) (fun u w2 hX_ => ?_)
 obtain ⟨rfl, hb2⟩ := hX_
 have hS2 : _ ∧ _ := ⟨hS0.1.keep hb2, hS0.2.keep hb2⟩
 replace r1 := keep hb2 r1
 replace hz := Nat.lt_of_lt_of_le hz hb2.size
 replace hb := Below.after hb hb2
 refine hK _ _ hS2 ?_
 simp only [Act.put, List.getElem_toArray, List.getElem_cons_succ, List.getElem_cons_zero, List.setIfInBounds_toArray, List.set_cons_succ, List.set_cons_zero]
 clear hK cD hS0 hb2
 have cC := hC _ hb
 clear hC
 refine wpAnyH_one (k := 6) (fuel := 1) (by kernel_rfl) rfl (by kernel_rfl) (fun K_ hK => ?_)
 refine wp_call_upW (base := w2.heap.size) (F := F) (R := fun v w' => ∃ x, v = .agg (vrv x) ∧ VtM w' (fun b => w2.heap.size ≤ b) x X) (B := fun w' => Below w2.heap.size w2 w') (by kernel_rfl) cC ?_ ?_
 ·rintro hF v_ w3 ⟨x, rfl, hvt⟩ hb3
  subst hF
  obtain ⟨xn, xda, xdl, xdc, xpa, xpl, xpc⟩ := x
  have hS3 : _ ∧ _ := ⟨hS2.1.keep hb3, hS2.2.keep hb3⟩
  replace r1 := keep hb3 r1
  have szw := hb.size
  replace hb := Below.after hb hb3
  refine hK _ _ hS3 ?_
  simp only [Act.put, List.getElem_toArray, List.getElem_cons_succ, List.getElem_cons_zero, List.setIfInBounds_toArray, List.set_cons_succ, List.set_cons_zero]
  clear hK hS2 hb3 cC
  have hone : (#[.int .u64 (xn : Int), .slice xda xdl xdc, .slice xpa xpl xpc] : Array Value).all (·.oneCell') = true := by simp [Value.oneCell']
  refine wpAnyH_one (k := 7) (fuel := 0) (by kernel_rfl) rfl (by kernel_rfl) (fun K_ hK => ?_)
  refine wp_store_row 27 _ _ rfl (w.heap.size + 1) #[.int .u64 (xn : Int), .slice xda xdl xdc, .slice xpa xpl xpc] rfl rfl 27 _ r1 infoV rfl hone ?_
  have rF := setRow_heap w3 (w.heap.size + 1) _ #[.int .u64 (xn : Int), .slice xda xdl xdc, .slice xpa xpl xpc] _ _ r1
  have hS4 : Bx (w3.setRow (w.heap.size + 1) #[.int .u64 (xn : Int), .slice xda xdl xdc, .slice xpa xpl xpc]) w.heap.size #[.int .i64 fno, .int .i64 fty, .int .u64 (num : Int), .slice da dl dc] ∧ Bx (w3.setRow (w.heap.size + 1) #[.int .u64 (xn : Int), .slice xda xdl xdc, .slice xpa xpl xpc]) g #[.slice so sn sc] := ⟨hS3.1.row (by omega), hS3.2.row (by have := hg.lt; omega)⟩
  have hv4 : VtM (w3.setRow (w.heap.size + 1) #[.int .u64 (xn : Int), .slice xda xdl xdc, .slice xpa xpl xpc]) (fun b => P b ∨ w.heap.size ≤ b) ⟨xn, xda, xdl, xdc, xpa, xpl, xpc⟩ X := hvt.other _ _ (fun b hb_ => ⟨by omega, .inr (by omega)⟩)
  have hb4 := below_setRow (g := w.heap.size + 1) hb (by omega) #[.int .u64 (xn : Int), .slice xda xdl xdc, .slice xpa xpl xpc]
  refine hK _ _ hS4 ?_
  simp only [Act.put]
  clear hK hvt
  generalize w3.setRow (w.heap.size + 1) #[.int .u64 (xn : Int), .slice xda xdl xdc, .slice xpa xpl xpc] = w4 at *
  refine wpAnyH_done (by kernel_rfl) ?_ _
  go_wp2_with (fail)
  exact bodyPost_ret (v := .agg #[.int .u64 (xn : Int), .slice xda xdl xdc, .slice xpa xpl xpc]) (results_cell_row Tryz.results73 _ _ (w.heap.size + 1) _ #[.int .u64 (xn : Int), .slice xda xdl xdc, .slice xpa xpl xpc] _ _ rfl rF Tryz.underlying27 rfl infoV) rfl ⟨⟨_, rfl, ⟨xn, xda, xdl, xdc, xpa, xpl, xpc⟩, rfl, hv4⟩, hb4⟩
 ·intro y hF q w3 h1_ h2_ hb3
  subst hF
  have szw := hb.size
  replace hb := Below.after hb hb3
  go_wp2_with (fail)
  exact ⟨rfl, ⟨q, rfl, by omega, h2_⟩, hb⟩
set_option maxRecDepth 100000 in
set_option maxHeartbeats 8000000 in
theorem a_slotDecodeT (no wt : Int) (k1 k2 k3 : FuncId) (a1 a2 a3 : Array Value) (fno fty : Int) (fnum : Nat) (da : Option Addr) (dl dc : Nat) (at_ : Int) (F : Option Flt3) (P : Nat → Prop) (X : VT) (w : World) (hP : ∀ b, P b → b < w.heap.size)
 (hent : ∀ args W, (callFunc k3 args).run Tryz.prog W = .ok (.enter k3 args) W)
 (hC : ∀ V, Below w.heap.size w V → fno = no → fty = wt → Calls Tryz.prog k3 (#[.agg #[.int .i64 fno, .int .i64 fty, .int .u64 (fnum : Int), .slice da dl dc], .int .i64 at_] ++ a3) V (RdR V P F X)) :
 Calls Tryz.prog 40 #[.agg #[.int .i64 no, .int .i64 wt, .func (.func k1) #[] a1, .func (.func k2) #[] a2, .func (.func k3) #[] a3], .agg #[.int .i64 fno, .int .i64 fty, .int .u64 (fnum : Int), .slice da dl dc], .int .i64 at_] w (RdR w P (if fno ≠ no then some ⟨0, at_, 81⟩ else if fty ≠ wt then some ⟨0, at_, 82⟩ else F) X) := by
 have r0 := hp3_0 w (.cells #[.int .i64 no, .int .i64 wt, .func (.func k1) #[] a1, .func (.func k2) #[] a2, .func (.func k3) #[] a3] 100) (.cells #[.int .i64 fno, .int .i64 fty, .int .u64 (fnum : Int), .slice da dl dc] 107) (.cells #[.int .u64 0, .slice none 0 0, .slice none 0 0] 27)
 have r1 := hp3_1 w (.cells #[.int .i64 no, .int .i64 wt, .func (.func k1) #[] a1, .func (.func k2) #[] a2, .func (.func k3) #[] a3] 100) (.cells #[.int .i64 fno, .int .i64 fty, .int .u64 (fnum : Int), .slice da dl dc] 107) (.cells #[.int .u64 0, .slice none 0 0, .slice none 0 0] 27)
 have r2 := hp3_2 w (.cells #[.int .i64 no, .int .i64 wt, .func (.func k1) #[] a1, .func (.func k2) #[] a2, .func (.func k3) #[] a3] 100) (.cells #[.int .i64 fno, .int .i64 fty, .int .u64 (fnum : Int), .slice da dl dc] 107) (.cells #[.int .u64 0, .slice none 0 0, .slice none 0 0] 27)
 have hb : Below w.heap.size w (((w.alloc (.cells #[.int .i64 no, .int .i64 wt, .func (.func k1) #[] a1, .func (.func k2) #[] a2, .func (.func k3) #[] a3] 100)).alloc (.cells #[.int .i64 fno, .int .i64 fty, .int .u64 (fnum : Int), .slice da dl dc] 107)).alloc (.cells #[.int .u64 0, .slice none 0 0, .slice none 0 0] 27)) := (((Below.refl _ _).alloc (Nat.le_refl _) _).alloc (by simp) _).alloc (by simp; omega) _
 have hsz3 : w.heap.size + 1 + 1 < ((((w.alloc (.cells #[.int .i64 no, .int .i64 wt, .func (.func k1) #[] a1, .func (.func k2) #[] a2, .func (.func k3) #[] a3] 100)).alloc (.cells #[.int .i64 fno, .int .i64 fty, .int .u64 (fnum : Int), .slice da dl dc] 107)).alloc (.cells #[.int .u64 0, .slice none 0 0, .slice none 0 0] 27))).heap.size := by simp
 unfold RdR at *
 obtain ⟨R, hR⟩ : ∃ R, (if fno ≠ no then some ⟨0, at_, 81⟩ else if fty ≠ wt then some ⟨0, at_, 82⟩ else F) = R := ⟨_, rfl⟩
 rw [hR]
 have cC := hC _ hb
 replace hb := hide hb
 replace cC := hide cC
 replace hsz3 := hide hsz3
 clear hC
 go_enter Tryz.func40, Tryz.ntmps40
 go_upto_region 1 with (fail)
 generalize (((w.alloc (.cells #[.int .i64 no, .int .i64 wt, .func (.func k1) #[] a1, .func (.func k2) #[] a2, .func (.func k3) #[] a3] 100)).alloc (.cells #[.int .i64 fno, .int .i64 fty, .int .u64 (fnum : Int), .slice da dl dc] 107)).alloc (.cells #[.int .u64 0, .slice none 0 0, .slice none 0 0] 27)) = W3 at *
 have s0 := cell_of_row _ _ 0 _ _ _ r0
 have s1 := cell_of_row _ _ 1 _ _ _ r0
 have s4 := cell_of_row _ _ 4 _ _ _ r0
 have f0 := cell_of_row _ _ 0 _ _ _ r1
 have f1 := cell_of_row _ _ 1 _ _ _ r1
 by_cases hno : fno = no
 ·subst hno
  by_cases hty : fty = wt
  ·subst hty
   have eR : F = R := by rw [← hR, if_neg (by simp), if_neg (by simp)]
   replace eR := hide eR
   replace cC := hide (cC.out rfl rfl)
   clear hR
   replace r2 := hide r2
   go_upto_region 5 with (fail)
   clear s0 s1 f0 f1
   repeat ((fail_if_success (refine wpList_load_want rfl 107 _ rfl (w.heap.size + 1) rfl 107 #[.int .i64 fno, .int .i64 fty, .int .u64 (fnum : Int), .slice da dl dc] (0, 0) _ r1 Tryz.underlying107 rfl infoFi ?_)); first | go_skip | go_step)
   refine wpList_load_want rfl 107 _ rfl (w.heap.size + 1) rfl 107 #[.int .i64 fno, .int .i64 fty, .int .u64 (fnum : Int), .slice da dl dc] (0, 0) _ r1 Tryz.underlying107 rfl infoFi ?_
   try simp only [Act.put, List.setIfInBounds_toArray, List.set_cons_succ, List.set_cons_zero]
   repeat ((fail_if_success (refine wpList_call_upW W3.heap.size F (fun v w' => ∃ x, v = .agg (vrv x) ∧ VtM w' (fun b => P b ∨ W3.heap.size ≤ b) x X) (fun w' => Below W3.heap.size W3 w') rfl (run_call_val (.tmp 22) #[.tmp 23, .tmp 24] #[107, 3] rfl rfl _ (by simp only [List.map_toArray, List.map_cons, List.map_nil]; rfl) hent) cC.out ?_ ?_)); first | go_skip | go_step)
   refine wpList_call_upW W3.heap.size F (fun v w' => ∃ x, v = .agg (vrv x) ∧ VtM w' (fun b => P b ∨ W3.heap.size ≤ b) x X) (fun w' => Below W3.heap.size W3 w') rfl (run_call_val (.tmp 22) #[.tmp 23, .tmp 24] #[107, 3] rfl rfl _ (by simp only [List.map_toArray, List.map_cons, List.map_nil]; rfl) hent) cC.out ?_ ?_
   ·rintro hF v_ w4 ⟨x, rfl, hvt⟩ hb4
    subst hF
    obtain ⟨xn, xda, xdl, xdc, xpa, xpl, xpc⟩ := x
    have R4 := keep hb4 r2.out
    have hw4 := Below.after hb.out hb4
    have szW := hsz3.out
    have RF := hide (setRow_heap _ (w.heap.size + 1 + 1) _ #[.int .u64 (xn : Int), .slice xda xdl xdc, .slice xpa xpl xpc] _ _ R4)
    have hwF := hide (below_setRow (g := w.heap.size + 1 + 1) hw4 (by omega) #[.int .u64 (xn : Int), .slice xda xdl xdc, .slice xpa xpl xpc])
    have hvF : Hid (VtM (w4.setRow (w.heap.size + 1 + 1) #[.int .u64 (xn : Int), .slice xda xdl xdc, .slice xpa xpl xpc]) (fun b => P b ∨ w.heap.size ≤ b) ⟨xn, xda, xdl, xdc, xpa, xpl, xpc⟩ X) := hide (hvt.other _ _ (fun b hb_ => by
     rcases hb_ with q | q
     ·exact ⟨by have := hP b q; omega, .inl q⟩
     ·exact ⟨by omega, .inr (by omega)⟩))
    have hone : (#[.int .u64 (xn : Int), .slice xda xdl xdc, .slice xpa xpl xpc] : Array Value).all (·.oneCell') = true := by simp [Value.oneCell']
    unfold vrv vrw
    clear r1 r0 r2 hb cC hb4 hw4 s4 hvt hsz3 szW hP
    try simp only [Act.put, List.setIfInBounds_toArray, List.set_cons_succ, List.set_cons_zero]
    go_wp2_with (first | (refine wpList_store_row rfl 27 _ _ rfl (w.heap.size + 1 + 1) #[.int .u64 (xn : Int), .slice xda xdl xdc, .slice xpa xpl xpc] rfl rfl 27 _ R4 infoV rfl hone ?_) | fail)
    refine bodyPost_ret (v := .agg #[.int .u64 (xn : Int), .slice xda xdl xdc, .slice xpa xpl xpc]) (results_cell_row Tryz.results40 _ _ (w.heap.size + 1 + 1) _ _ _ _ rfl RF.out Tryz.underlying27 rfl infoV) rfl ⟨?_, hwF.out⟩
    rw [← eR.out]
    exact ⟨_, rfl, ⟨xn, xda, xdl, xdc, xpa, xpl, xpc⟩, rfl, hvF.out⟩
   ·intro x hF g w4 h1 h2 hb4
    subst hF
    have szw := hb.out.size
    have hw4 := Below.after hb.out hb4
    go_wp2_with (fail)
    rw [← eR.out]
    exact ⟨rfl, ⟨g, rfl, by omega, h2⟩, hw4⟩
  ·have eR : R = some ⟨0, at_, 82⟩ := by rw [← hR, if_neg (by simp), if_pos hty]
   have hd : (fty == wt) = false := by simpa using hty
   replace eR := hide eR
   clear hR cC r0 r1 r2
   go_wp2_with (fail)
   refine (a_giveUp 0 at_ 82 _).mono ?_
   rintro e_ w2 ⟨hg, hb2⟩
   obtain ⟨g, rfl, hgl, hgr⟩ := hg
   have szw := hb.out.size
   have hw := Below.after hb.out hb2
   clear hb
   go_wp2
   rw [eR.out]
   exact ⟨rfl, ⟨g, rfl, Nat.le_trans szw hgl, hgr⟩, hw⟩
 ·have eR : R = some ⟨0, at_, 81⟩ := by rw [← hR, if_pos hno]
  have hd : (fno == no) = false := by simpa using hno
  replace eR := hide eR
  clear hR cC r0 r1 r2
  go_wp2_with (fail)
  refine (a_giveUp 0 at_ 81 _).mono ?_
  rintro e_ w2 ⟨hg, hb2⟩
  obtain ⟨g, rfl, hgl, hgr⟩ := hg
  have szw := hb.out.size
  have hw := Below.after hb.out hb2
  clear hb
  go_wp2
  rw [eR.out]
  exact ⟨rfl, ⟨g, rfl, Nat.le_trans szw hgl, hgr⟩, hw⟩
end Go.Proofs.YtalgcjkiajojoaaGreatDoor

