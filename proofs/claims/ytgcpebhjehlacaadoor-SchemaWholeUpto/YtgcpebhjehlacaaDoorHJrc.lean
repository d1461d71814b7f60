import Derived.Test.YtgcpebhjehlacaaDoorHXdc
import Derived.OwnWalk
import Derived.Deep.Cut
import Derived.Deep.RegionHeld3
import Derived.Test.YtgcpebhjehlacaaDoorHKtf
namespace Go.Proofs.YtgcpebhjehlacaaDoor
set_option maxRecDepth 100000
open Go Go.RowKit Go.Sort
attribute [local go_sem] setCell_drewN alloc_drewN
section
variable {P : Program} {ops : Array Oper} {Q : Exit → Act → World → Prop} {md : Region.Mode} {S : World → Prop}
end
theorem a_sizeX (n : Nat) (hn : n < 18446744073709551616) (w : World) : Calls Tryd.prog 32 #[.int .u64 (n : Int)] w fun e w' => ∃ u, e = .returned u ∧ u = .int .i64 ((en n).length : Int) ∧ Below w.heap.size w w' := (a_size n hn w).mono fun _ _ h => ⟨_, h.1, rfl, h.2⟩
set_option maxRecDepth 100000 in
set_option maxHeartbeats 8000000 in
theorem a_endOf (f : Fd) (ao : Option Addr) (cap : Nat) (at_ : Int) (hat : 0 ≤ at_ ∧ at_ ≤ 4611686018427387904) (hf : Fok f) (h0 : 0 ≤ f.no) (h1 : f.no ≤ 536870911) (hk : known f.ty) (w : World) : Calls Tryd.prog 42 #[.agg #[.int .i64 f.no, .int .i64 f.ty, .int .u64 (f.num : Int), .slice ao f.dat.length cap], .int .i64 at_] w fun e w' => ∃ u, e = .returned u ∧ u = .int .i64 (at_ + ((fby f).length : Int)) ∧ Below w.heap.size w w' := by
 have ht := known_lt hk
 obtain ⟨N, hN⟩ := Int.eq_ofNat_of_zero_le h0
 obtain ⟨hf1, hf2, _, _⟩ := hf
 have hH : (en (fhd f)).length = (en (8 * N)).length := by
  have e : fhd f = 8 * N + f.ty.toNat := by unfold fhd; rw [hN]; rfl
  rw [e]
  exact en_head N _ (by omega)
 have cH := s_headOf N (by omega)
 have cS := a_size (8 * N) (by omega)
 have cN := a_size f.num hf1
 have cD := a_sizeX f.dat.length (by omega)
 have hten := en_ten (n := 8 * N) (by omega)
 have hten2 := en_ten hf1
 have hten3 := en_ten (n := f.dat.length) (by omega)
 have hl : (fby f).length = (en (8 * N)).length + (fvl f).length := by rw [fby, List.length_append, hH]
 have hvl : fvl f = if f.ty = 0 then en f.num else if f.ty = 1 then fx 8 f.num else if f.ty = 5 then fx 4 f.num else itm f.dat := rfl
 have hL0 : f.ty = 0 → (fby f).length = (en (8 * N)).length + (en f.num).length := fun t => by rw [hl, hvl, if_pos t]
 have hL1 : f.ty = 1 → (fby f).length = (en (8 * N)).length + 8 := fun t => by rw [hl, hvl, if_neg (by omega), if_pos t, fx_len]
 have hL5 : f.ty = 5 → (fby f).length = (en (8 * N)).length + 4 := fun t => by rw [hl, hvl, if_neg (by omega), if_neg (by omega), if_pos t, fx_len]
 have hL2 : f.ty = 2 → (fby f).length = (en (8 * N)).length + (en f.dat.length).length + f.dat.length := fun t => by rw [hl, hvl, if_neg (by omega), if_neg (by omega), if_neg (by omega), itm_len]; omega
 unfold known at hk
 generalize (fby f).length = L at *
 clear hvl hl hH
 generalize hfn : f.no = fno at *
 generalize f.ty = fty at *
 generalize f.num = num at *
 generalize f.dat.length = dl at *
 generalize (en (8 * N)).length = H at *
 generalize (en dl).length = DL at *
 generalize (en num).length = NL at *
 replace hN := hide hN
 clear hfn f
 have R0 := hp1_0 w (.cells #[.int .i64 fno, .int .i64 fty, .int .u64 (num : Int), .slice ao dl cap] 78)
 have hw : Below w.heap.size w (w.alloc (.cells #[.int .i64 fno, .int .i64 fty, .int .u64 (num : Int), .slice ao dl cap] 78)) := (Below.refl _ _).alloc (Nat.le_refl _) _
 go_enter Tryd.func42, Tryd.ntmps42
 go_upto_region 1 with (fail)
 generalize w.alloc (.cells #[.int .i64 fno, .int .i64 fty, .int .u64 (num : Int), .slice ao dl cap] 78) = w1 at *
 have c0 := cell_of_row _ _ 0 _ _ _ R0
 have cH1 := cH w1
 rw [← hN.out] at cH1
 replace cH1 := hide cH1
 clear cH
 go_wp2_with (fail)
 refine cH1.out.mono ?_
 rintro e_ w2 ⟨rfl, hb_⟩
 replace R0 := keep hb_ R0
 replace hw := Below.after hw hb_
 clear hb_ c0 cH1
 have cS2 := hide (cS w2)
 clear cS
 go_wp2_with (fail)
 refine cS2.out.mono ?_
 rintro e_ w3 ⟨rfl, hb_⟩
 replace R0 := keep hb_ R0
 replace hw := Below.after hw hb_
 clear hb_ cS2
 rcases hk with t | t | t | t
 ·have e := hide (hL0 t)
  subst t
  have cN3 := hide (cN w3)
  have c1 := cell_of_row _ _ 1 _ _ _ R0
  have c2 := cell_of_row _ _ 2 _ _ _ R0
  clear hL0 hL1 hL2 hL5 cN cD
  go_wp2_with (fail)
  refine cN3.out.mono ?_
  rintro e_ w4 ⟨rfl, hb_⟩
  replace hw := Below.after hw hb_
  clear hb_ cN3
  go_wp2_with (fail)
  go_ret
  exact ⟨_, rfl, by rw [e.out]; go_num, hw⟩
 ·have e := hide (hL1 t)
  subst t
  have c1 := cell_of_row _ _ 1 _ _ _ R0
  clear hL0 hL1 hL2 hL5 cN cD
  go_wp2_with (fail)
  go_ret
  exact ⟨_, rfl, by rw [e.out]; go_num, hw⟩
 ·have e := hide (hL2 t)
  subst t
  have c1 := cell_of_row _ _ 1 _ _ _ R0
  clear hL0 hL1 hL2 hL5 cN
  go_upto_region 8 with (fail)
  clear c1
  have hbd : Below w3.heap.size w3 w3.drew := below_drN (Below.refl _ _) 1
  replace R0 := keep hbd R0
  replace hw := Below.after hw hbd
  clear hbd
  have q0 : IntKind.wrap .u64 (dl : Int) = (dl : Int) := by show (dl : Int) % 18446744073709551616 = dl; omega
  have q1 : IntKind.wrap .i64 (at_ + (H : Int) + (DL : Int)) = at_ + (H : Int) + (DL : Int) := by rw [IntKind.wrap_i64]; omega
  have q2 : IntKind.wrap .i64 (at_ + (H : Int) + (DL : Int) + (dl : Int)) = at_ + (H : Int) + (DL : Int) + (dl : Int) := by rw [IntKind.wrap_i64]; omega
  refine wp_region_noPanic ?_
  refine wp_region_held (S := fun W => W.heap[w.heap.size]? = some (.cells #[.int .i64 fno, .int .i64 2, .int .u64 (num : Int), .slice ao dl cap] 78 (0, 0))) (by kernel_rfl) ?_
  change wpAnyH _ _ _ _ _ _ _ _ (World.drew _)
  generalize w3.drew = y1 at *
  refine wpAnyH_take (i := 0) (v := ?v1) rfl (by kernel_rfl) (by kernel_rfl) (by kernel_rfl) (fun _ _ _ h => h) (Or.inl ⟨by rfl, ?y1⟩) R0 ?r1
  case y1 =>
   intro w_ hS_
   go_simp
   try with_reducible rfl
  simp only [Act.put, List.getElem_toArray, List.getElem_cons_zero, List.setIfInBounds_toArray, List.set_cons_succ, List.set_cons_zero]
  refine wpAnyH_take (i := 1) (v := ?v2) rfl (by kernel_rfl) (by kernel_rfl) (by kernel_rfl) (fun _ _ _ h => h) (Or.inl ⟨by rfl, ?y2⟩) R0 ?r2
  case y2 =>
   intro w_ hS_
   go_simp
   try with_reducible rfl
  simp only [Act.put, List.getElem_toArray, List.getElem_cons_succ, List.getElem_cons_zero, List.setIfInBounds_toArray, List.set_cons_succ, List.set_cons_zero]
  refine wpAnyH_take (i := 2) (v := .slice ao dl cap) rfl (by kernel_rfl) (by kernel_rfl) (by kernel_rfl) (fun _ _ _ h => h) (Or.inl ⟨by rfl, ?y3⟩) R0 ?r3
  case y3 =>
   intro w_ hS_
   have c_ := cell_of_row _ _ 3 _ _ _ hS_
   go_simp
   try with_reducible rfl
  simp only [Act.put, List.getElem_toArray, List.getElem_cons_succ, List.getElem_cons_zero, List.setIfInBounds_toArray, List.set_cons_succ, List.set_cons_zero]
  refine wpAnyH_take (i := 3) (v := ?v4) rfl (by kernel_rfl) (by kernel_rfl) (by kernel_rfl) (fun _ _ _ h => h) (Or.inl ⟨by rfl, ?y4⟩) R0 ?r4
  case y4 =>
   intro w_ hS_
   go_simp
   try with_reducible rfl
  simp only [Act.put, List.getElem_toArray, List.getElem_cons_succ, List.getElem_cons_zero, List.setIfInBounds_toArray, List.set_cons_succ, List.set_cons_zero]
  refine wpAnyH_take (i := 4) (v := .int .u64 (dl : Int)) rfl (by kernel_rfl) (by kernel_rfl) (by kernel_rfl) (fun _ _ _ h => h) (Or.inl ⟨by rfl, ?y5⟩) R0 ?r5
  case y5 =>
   intro w_ hS_
   go_simp
   try with_reducible rfl
  simp only [Act.put, List.getElem_toArray, List.getElem_cons_succ, List.getElem_cons_zero, List.setIfInBounds_toArray, List.set_cons_succ, List.set_cons_zero]
  refine wpAnyH_take (i := 7) (v := ?v6) rfl (by kernel_rfl) (by kernel_rfl) (by kernel_rfl) (fun _ _ _ h => h) (Or.inl ⟨by rfl, ?y6⟩) R0 ?r6
  case y6 =>
   intro w_ hS_
   go_simp
   try with_reducible rfl
  simp only [Act.put, List.getElem_toArray, List.getElem_cons_succ, List.getElem_cons_zero, List.setIfInBounds_toArray, List.set_cons_succ, List.set_cons_zero]
  refine wpAnyH_take (i := 8) (v := .slice ao dl cap) rfl (by kernel_rfl) (by kernel_rfl) (by kernel_rfl) (fun _ _ _ h => h) (Or.inl ⟨by rfl, ?y7⟩) R0 ?r7
  case y7 =>
   intro w_ hS_
   have c_ := cell_of_row _ _ 3 _ _ _ hS_
   go_simp
   try with_reducible rfl
  simp only [Act.put, List.getElem_toArray, List.getElem_cons_succ, List.getElem_cons_zero, List.setIfInBounds_toArray, List.set_cons_succ, List.set_cons_zero]
  refine wpAnyH_take (i := 9) (v := ?v8) rfl (by kernel_rfl) (by kernel_rfl) (by kernel_rfl) (fun _ _ _ h => h) (Or.inl ⟨by rfl, ?y8⟩) R0 ?r8
  case y8 =>
   intro w_ hS_
   go_simp
   try with_reducible rfl
  simp only [Act.put, List.getElem_toArray, List.getElem_cons_succ, List.getElem_cons_zero, List.setIfInBounds_toArray, List.set_cons_succ, List.set_cons_zero]
  refine wpAnyH_one (k := 5) (fuel := 3) (by kernel_rfl) rfl (by kernel_rfl) (fun K_ hK => ?_)
  refine wp_call_ex (f := 32) (by kernel_rfl) (cD y1) (fun v_ y2 hX_ => ?_)
  obtain ⟨rfl, hb_⟩ := hX_
  replace R0 := keep hb_ R0
  replace hw := Below.after hw hb_
  clear hb_
  refine hK _ _ R0 ?_
  simp only [Act.put, List.getElem_toArray, List.getElem_cons_succ, List.getElem_cons_zero, List.setIfInBounds_toArray, List.set_cons_succ, List.set_cons_zero]
  clear hK
  refine wpAnyH_take (i := 6) (v := .int .i64 (at_ + (H : Int) + (DL : Int))) rfl (by kernel_rfl) (by kernel_rfl) (by kernel_rfl) (fun _ _ _ h => h) (Or.inl ⟨by rfl, ?y9⟩) R0 ?r9
  case y9 =>
   intro w_ hS_
   go_simp
   try with_reducible rfl
  simp only [Act.put, List.getElem_toArray, List.getElem_cons_succ, List.getElem_cons_zero, List.setIfInBounds_toArray, List.set_cons_succ, List.set_cons_zero]
  refine wpAnyH_take (i := 10) (v := .int .i64 (at_ + (H : Int) + (DL : Int) + (dl : Int))) rfl (by kernel_rfl) (by kernel_rfl) (by kernel_rfl) (fun _ _ _ h => h) (Or.inl ⟨by rfl, ?y10⟩) R0 ?r10
  case y10 =>
   intro w_ hS_
   go_simp
   try with_reducible rfl
  simp only [Act.put, List.getElem_toArray, List.getElem_cons_succ, List.getElem_cons_zero, List.setIfInBounds_toArray, List.set_cons_succ, List.set_cons_zero]
  refine wpAnyH_take (i := 11) (v := ?v11) rfl (by kernel_rfl) (by kernel_rfl) (by kernel_rfl) (fun _ _ _ h => h) (Or.inl ⟨by rfl, ?y11⟩) R0 ?r11
  case y11 =>
   intro w_ hS_
   go_simp
   try with_reducible rfl
  simp only [Act.put, List.getElem_toArray, List.getElem_cons_succ, List.getElem_cons_zero, List.setIfInBounds_toArray, List.set_cons_succ, List.set_cons_zero]
  refine wpAnyH_done (by kernel_rfl) ?_ _
  refine NoPanic.normal ?_
  go_wp2_with (fail)
  go_ret
  exact ⟨_, rfl, by rw [e.out]; show Value.int .i64 (at_ + (H : Int) + (DL : Int) + (dl : Int)) = _; congr 1; omega, hw⟩
 ·have e := hide (hL5 t)
  subst t
  have c1 := cell_of_row _ _ 1 _ _ _ R0
  clear hL0 hL1 hL2 hL5 cN cD
  go_wp2_with (fail)
  go_ret
  exact ⟨_, rfl, by rw [e.out]; go_num, hw⟩
end Go.Proofs.YtgcpebhjehlacaaDoor
namespace Go.Proofs.YtgcpebhjehlacaaDoor
set_option maxRecDepth 100000
open Go Go.RowKit Go.Sort
/-! What is cut short. -/
theorem rd_short (n : Nat) : ∀ i k, i ≤ 9 → n < 2 ^ (64 - 7 * i) → k < (en n).length → rd i ((en n).take k) = .er 73 := by
 induction n using Nat.strongRecOn with
 | ind n ih =>
  intro i k hi hn hk
  cases k with
  | zero => rw [List.take_zero, rd]
  | succ k =>
   by_cases h : n < 128
   ·rw [en_lo h] at hk
    simp at hk
   ·rw [en_hi h, List.length_cons] at hk
    rw [en_hi h, List.take_succ_cons, rd, b_of _ (by omega), if_pos (by omega)]
    have hi9 : i ≠ 9 := by
     intro e
     subst e
     simp at hn
     omega
    rw [if_neg hi9]
    have h7 : n / 128 < 2 ^ (64 - 7 * (i + 1)) := by
     have e1 : 64 - 7 * i = (64 - 7 * (i + 1)) + 7 := by omega
     rw [e1, Nat.pow_add] at hn
     exact Nat.div_lt_of_lt_mul (by rw [Nat.mul_comm]; exact hn)
    rw [ih (n / 128) (by omega) (i + 1) k (by omega) h7 (by omega)]
theorem rd0_cut {n k : Nat} (h : n < 18446744073709551616) (hk : k < (en n).length) : rd 0 ((en n).take k) = .er 73 := rd_short n 0 k (by decide) (by simpa using h) hk
theorem rh_cut {f : Fd} {last : Int} {c k : Nat} (h : fhd f < 18446744073709551616) (hk : k < (en (fhd f)).length) : rh ((en (fhd f)).take k) last c = .er 73 := by
 unfold rh
 rw [rd0_cut h hk]
theorem ri_cut {p : List B} {k : Nat} (h : p.length < 18446744073709551616) (hk : k < (itm p).length) : ri ((itm p).take k) = .er 73 := by
 unfold itm at hk ⊢
 rw [List.length_append] at hk
 unfold ri
 by_cases q : k < (en p.length).length
 ·rw [List.take_append_of_le_length (by omega), rd0_cut h q]
 ·have e : (en p.length ++ p).take k = en p.length ++ p.take (k - (en p.length).length) := by
   rw [List.take_append, List.take_of_length_le (by omega)]
  rw [e, rd0_en h]
  simp only
  rw [if_pos]
  simp only [List.length_append, List.length_take]
  omega
theorem rv_cut {f : Fd} {k : Nat} (hk : known f.ty) (ho : Fok f) (h : k < (fvl f).length) : rv ((fvl f).take k) f.ty = .er 73 := by
 obtain ⟨no, ty, num, dat⟩ := f
 obtain ⟨o1, o2, _⟩ := ho
 simp only at hk o1 o2 ⊢
 rcases hk with rfl | rfl | rfl | rfl
 ·replace h : k < (en num).length := h
  show rv ((en num).take k) 0 = .er 73
  unfold rv
  rw [if_neg (by decide), if_neg (by decide), if_neg (by decide), rd0_cut o1 h]
 ·replace h : k < (fx 8 num).length := h
  rw [fx_len] at h
  show rv ((fx 8 num).take k) 1 = .er 73
  unfold rv
  rw [if_pos rfl, if_pos (by rw [List.length_take, fx_len]; omega)]
 ·replace h : k < (itm dat).length := h
  show rv ((itm dat).take k) 2 = .er 73
  unfold rv
  rw [if_neg (by decide), if_neg (by decide), if_pos rfl, ri_cut (by omega) h]
 ·replace h : k < (fx 4 num).length := h
  rw [fx_len] at h
  show rv ((fx 4 num).take k) 5 = .er 73
  unfold rv
  rw [if_neg (by decide), if_pos rfl, if_pos (by rw [List.length_take, fx_len]; omega)]
theorem whl_app {d : List B} : ∀ (fs : List Fd) (pre r : List B) (last : Int) (c k : Nat), d = pre ++ (ebs fs ++ r) → ech fs last = 0 → c + fs.length ≤ 64 → 0 ≤ last → (∀ f ∈ fs, Fok f) → d.length - pre.length ≤ k →
 ∃ (xs : List (Nat × Fd)) (j : Nat) (la : Int), xs.map (·.2) = fs ∧ d.length - (pre ++ ebs fs).length ≤ j ∧ 0 ≤ la ∧ (∀ f gs, ech (fs ++ f :: gs) last = 0 → fck f la = 0) ∧ whl d k pre.length last c = (xs ++ (whl d j (pre ++ ebs fs).length la (c + fs.length)).1, (whl d j (pre ++ ebs fs).length la (c + fs.length)).2)
 | [], pre, r, last, c, k, hd, _, _, h0, _, hk => by
  refine ⟨[], k, last, rfl, by simpa [ebs] using hk, h0, fun f gs h => ?_, by simp [ebs]⟩
  rw [List.nil_append, ech] at h
  by_cases hf : fck f last = 0
  ·exact hf
  ·rw [if_pos hf] at h; exact h
 | f :: fs, pre, r, last, c, k, hd, he, hc, h0, hok, hk => by
  rw [List.length_cons] at hc
  rw [ech] at he
  by_cases hf : fck f last = 0
  ·rw [if_neg (by rw [hf]; simp)] at he
   obtain ⟨f1, f2, f3, f4⟩ := fck_ok hf
   have hh : hck f last = 0 := by
    unfold fck at hf
    by_cases q : hck f last = 0
    ·exact q
    ·rw [if_pos q] at hf; exact hf
   have hp := en_pos (fhd f)
   have hd2 : d = (pre ++ fby f) ++ (ebs fs ++ r) := by rw [hd, ebs]; simp only [List.append_assoc]
   have hlt : pre.length < d.length := by
    rw [hd2, fby]
    simp only [List.length_append]
    omega
   have hr : rh (d.drop pre.length) last c = .ok f.no f.ty (en (fhd f)).length := by
    rw [hd, List.drop_left, ebs, fby]
    simp only [List.append_assoc]
    exact rh_of _ hh h0 (by omega)
   have hv : rv (d.drop (pre.length + (en (fhd f)).length)) f.ty = .ok f.num f.dat (fvl f).length := by
    rw [hd, ← List.drop_drop, List.drop_left, ebs, fby]
    simp only [List.append_assoc, List.drop_left]
    exact rv_of _ f3 f4 (hok f (List.mem_cons_self ..))
   obtain ⟨j, hj, hst⟩ := whl_step hlt hk hr hv
   have hpl : pre.length + (en (fhd f)).length + (fvl f).length = (pre ++ fby f).length := by rw [fby]; simp only [List.length_append]; omega
   rw [hpl] at hst hj
   obtain ⟨xs, j2, la, i1, i2, i3, i4, i5⟩ := whl_app fs (pre ++ fby f) r f.no (c + 1) j hd2 he (by omega) (by omega) (fun g hg => hok g (List.mem_cons_of_mem _ hg)) hj
   have e1 : pre ++ fby f ++ ebs fs = pre ++ ebs (f :: fs) := by rw [ebs, List.append_assoc]
   have e2 : c + 1 + fs.length = c + (f :: fs).length := by rw [List.length_cons]; omega
   rw [e1] at i2 i5
   rw [e2] at i5
   refine ⟨(pre.length, f) :: xs, j2, la, by rw [List.map_cons, i1], i2, i3, fun g gs h => ?_, ?_⟩
   ·rw [List.cons_append, ech, if_neg (by rw [hf]; simp)] at h
    exact i4 g gs h
   ·rw [hst, i5]
    rfl
  ·rw [if_pos hf] at he
   exact absurd he hf
theorem whl_cut {fs gs : List Fd} {f : Fd} {k : Nat} (he : ech (fs ++ f :: gs) 0 = 0) (hl : fs.length < 64) (hok : ∀ g ∈ fs ++ f :: gs, Fok g) (h0 : 0 < k) (hk : k < (fby f).length) :
 (whl (ebs fs ++ (fby f).take k) (ebs fs ++ (fby f).take k).length 0 0 0).2 = some ((ebs fs).length + (if k < (en (fhd f)).length then 0 else (en (fhd f)).length), 73) := by
 have hpre : ∀ (a : List Fd) (last : Int) (b : List Fd), ech (a ++ b) last = 0 → ech a last = 0 := by
  intro a
  induction a with
  | nil => intro _ _ _; rfl
  | cons x a ih =>
   intro last b h
   rw [List.cons_append, ech] at h
   rw [ech]
   by_cases hx : fck x last = 0
   ·rw [if_neg (by rw [hx]; simp)] at h ⊢
    exact ih _ _ h
   ·rw [if_pos hx] at h; exact absurd h hx
 obtain ⟨xs, j, la, i1, i2, i3, i4, i5⟩ := whl_app (d := ebs fs ++ (fby f).take k) fs [] ((fby f).take k) 0 0 (ebs fs ++ (fby f).take k).length rfl (hpre fs 0 _ he) (by omega) (by omega) (fun g hg => hok g (List.mem_append_left _ hg)) (by omega)
 simp only [List.length_nil, List.nil_append, Nat.zero_add] at i2 i5
 rw [i5]
 simp only
 have hf := i4 f gs he
 obtain ⟨f1, f2, f3, f4⟩ := fck_ok hf
 have hh : hck f la = 0 := by
  unfold fck at hf
  by_cases q : hck f la = 0
  ·exact q
  ·rw [if_pos q] at hf; exact hf
 have ht := known_lt f3
 have hfh : fhd f < 18446744073709551616 := by unfold fhd; omega
 have hlen : (ebs fs ++ (fby f).take k).length = (ebs fs).length + k := by rw [List.length_append, List.length_take, Nat.min_eq_left (by omega)]
 have hlt : (ebs fs).length < (ebs fs ++ (fby f).take k).length := by omega
 by_cases q : k < (en (fhd f)).length
 ·rw [if_pos q, Nat.add_zero]
  have hr : rh ((ebs fs ++ (fby f).take k).drop (ebs fs).length) la fs.length = .er 73 := by
   rw [List.drop_left, fby, List.take_append_of_le_length (by omega)]
   exact rh_cut hfh q
  rw [whl_head hlt i2 hr]
 ·rw [if_neg q]
  have et : (fby f).take k = en (fhd f) ++ (fvl f).take (k - (en (fhd f)).length) := by
   rw [fby, List.take_append, List.take_of_length_le (by omega)]
  have hr : rh ((ebs fs ++ (fby f).take k).drop (ebs fs).length) la fs.length = .ok f.no f.ty (en (fhd f)).length := by
   rw [List.drop_left, et]
   exact rh_of _ hh i3 (by omega)
  have hv : rv ((ebs fs ++ (fby f).take k).drop ((ebs fs).length + (en (fhd f)).length)) f.ty = .er 73 := by
   rw [← List.drop_drop, List.drop_left, et, List.drop_left]
   refine rv_cut f3 (hok f (List.mem_append_right _ (List.mem_cons_self ..))) ?_
   unfold fby at hk
   rw [List.length_append] at hk
   omega
  rw [whl_value hlt i2 hr hv]
end Go.Proofs.YtgcpebhjehlacaaDoor
namespace Go.Proofs.YtgcpebhjehlacaaDoor
set_option maxRecDepth 100000
open Go Go.RowKit Go.Sort
/-! Parts of a list of fields. -/
theorem gf_take (fs : List Fd) (k i : Nat) (h : i < k) : gf (fs.take k) i = gf fs i := by
 rw [gf, gf, List.getD_eq_getElem?_getD, List.getD_eq_getElem?_getD, List.getElem?_take_of_lt h]
theorem Fds.take {W : World} {ao : Option Addr} {cap l : Nat} {fs : List Fd} (h : Fds W (.slice ao l cap) fs) (k : Nat) (hk : k ≤ fs.length) : Fds W (.slice ao k cap) (fs.take k) := by
 obtain ⟨ao', cap', e, h1, h2, h3, h4⟩ := h
 cases e
 have hl : (fs.take k).length = k := by rw [List.length_take, Nat.min_eq_left hk]
 refine ⟨ao, cap, by rw [hl], by omega, by omega, h3, fun i hi => ?_⟩
 rw [hl] at hi
 rw [gf_take fs k i hi]
 exact h4 i (by omega)
theorem ech_take : ∀ (fs : List Fd) (last : Int) (k : Nat), ech fs last = 0 → ech (fs.take k) last = 0
 | [], _, _, _ => by simp [ech]
 | f :: fs, last, 0, _ => by simp [ech]
 | f :: fs, last, k + 1, h => by
  rw [List.take_succ_cons]
  rw [ech] at h ⊢
  by_cases hf : fck f last = 0
  ·rw [if_neg (by rw [hf]; simp)] at h ⊢
   exact ech_take fs _ k h
  ·rw [if_pos hf] at h
   exact absurd h hf
theorem eer_ok {fs : List Fd} : eer fs = 0 ↔ fs.length ≤ 64 ∧ ech fs 0 = 0 ∧ (ebs fs).length ≤ 4194304 := by
 unfold eer
 by_cases h1 : 64 < fs.length
 ·rw [if_pos h1]
  constructor
  ·intro h; cases h
  ·intro h; omega
 rw [if_neg h1]
 by_cases h2 : ech fs 0 = 0
 ·rw [if_neg (by rw [h2]; simp)]
  by_cases h3 : 4194304 < (ebs fs).length
  ·rw [if_pos h3]
   constructor
   ·intro h; cases h
   ·intro h; omega
  ·rw [if_neg h3]
   exact ⟨fun _ => ⟨by omega, h2, by omega⟩, fun _ => rfl⟩
 ·rw [if_pos h2]
  exact ⟨fun h => absurd h h2, fun h => absurd h.2.1 h2⟩
theorem eer_take {fs : List Fd} (k : Nat) (h : eer fs = 0) : eer (fs.take k) = 0 := by
 obtain ⟨h1, h2, h3⟩ := eer_ok.1 h
 exact eer_ok.2 ⟨by rw [List.length_take]; omega, ech_take fs 0 k h2, by have := ebs_mono fs k; omega⟩
theorem ebs_split (fs : List Fd) (c : Nat) : ebs fs = ebs (fs.take c) ++ ebs (fs.drop c) := by
 rw [← ebs_app, List.take_append_drop]
theorem cut_end {fs : List Fd} (c : Nat) : (ebs fs).take (ebs (fs.take c)).length = ebs (fs.take c) := by
 conv => lhs; rw [ebs_split fs c]
 rw [List.take_left]
theorem cut_in {fs : List Fd} {c n : Nat} (hc : c < fs.length) (h1 : (ebs (fs.take c)).length ≤ n) (h2 : n < (ebs (fs.take (c + 1))).length) : (ebs fs).take n = ebs (fs.take c) ++ (fby (gf fs c)).take (n - (ebs (fs.take c)).length) := by
 rw [ebs_snoc fs c hc, List.length_append] at h2
 rw [ebs_split fs c, fdrop_at fs c hc, ebs, List.take_append, List.take_of_length_le h1, List.take_append_of_le_length (by omega)]
theorem dec_cut {fs : List Fd} {c n : Nat} (he : eer fs = 0) (hok : ∀ f ∈ fs, Fok f) (hc : c < fs.length) (h1 : (ebs (fs.take c)).length < n) (h2 : n < (ebs (fs.take (c + 1))).length) :
 der (dwh ((ebs fs).take n)) = 73 ∧ dfs (dwh ((ebs fs).take n)) = [] ∧ dpl (dwh ((ebs fs).take n)) = (((ebs (fs.take c)).length + (if n - (ebs (fs.take c)).length < (en (fhd (gf fs c))).length then 0 else (en (fhd (gf fs c))).length) : Nat) : Int) := by
 obtain ⟨e1, e2, e3⟩ := eer_ok.1 he
 have h2' := h2
 rw [ebs_snoc fs c hc, List.length_append] at h2'
 have hm := ebs_mono fs (c + 1)
 have hfs : fs.take c ++ gf fs c :: fs.drop (c + 1) = fs := by rw [← fdrop_at fs c hc, List.take_append_drop]
 have hw := whl_cut (fs := fs.take c) (gs := fs.drop (c + 1)) (f := gf fs c) (k := n - (ebs (fs.take c)).length) (by rw [hfs]; exact e2) (by rw [List.length_take]; omega) (by rw [hfs]; exact hok) (by omega) (by omega)
 rw [← cut_in hc (by omega) h2] at hw
 have hd : dwh ((ebs fs).take n) = whl ((ebs fs).take n) ((ebs fs).take n).length 0 0 0 := if_neg (by rw [List.length_take]; omega)
 rw [hd]
 simp only [der, dfs, dpl, hw]
 exact ⟨trivial, trivial, trivial⟩
theorem dec_end {fs : List Fd} {c : Nat} (he : eer fs = 0) (hok : ∀ f ∈ fs, Fok f) : der (dwh ((ebs fs).take (ebs (fs.take c)).length)) = 0 ∧ dpl (dwh ((ebs fs).take (ebs (fs.take c)).length)) = 0 ∧ dfs (dwh ((ebs fs).take (ebs (fs.take c)).length)) = fs.take c := by
 rw [cut_end]
 exact enc_dec (eer_take c he) (fun f hf => hok f (List.mem_of_mem_take hf))
end Go.Proofs.YtgcpebhjehlacaaDoor
namespace Go.Proofs.YtgcpebhjehlacaaDoor
set_option maxRecDepth 100000
open Go Go.RowKit Go.Sort
attribute [local go_sem] setCell_drewN alloc_drewN
theorem infoVI : ∃ i, Tryd.prog.info? 27 = some i ∧ i.zero = some (.agg #[.int .u64 0, .slice none 0 0, .slice none 0 0]) ∧ i.size = 3 ∧ i.bytes = 56 := ⟨_, rfl, rfl, rfl, rfl⟩
theorem run_bv1 (x y z : Value) (W : World) : (Instr.buildSlice 25 1 #[(0, .agg #[x, y, z])]).run Tryd.prog W = .ok (.slice (some ⟨W.heap.size, 0, none⟩) 1 1) (W.alloc (.cells #[x, y, z] 27)) := by kernel_rfl
theorem op_bv1 {o : Oper} {a : Act} {w : World} (p : Operand) (ho : o.op = .buildSlice 25 1 #[(0, p)]) (x y z : Value) (hp : a.eval p = .agg #[x, y, z]) : (execOp a.eval o).run Tryd.prog w = .ok (.value (.slice (some ⟨w.heap.size, 0, none⟩) 1 1)) (w.alloc (.cells #[x, y, z] 27)) := by
 have hr := run_bv1 x y z w
 unfold execOp
 simp only [ho, Sem.run_bind, Sem.run_pure, List.map_toArray, List.map_cons, List.map_nil, hp, hr, Result.andThen_ok]
theorem ech_all : ∀ (fs : List Fd) (last : Int), 0 ≤ last → ech fs last = 0 → ∀ f ∈ fs, 0 ≤ f.no ∧ f.no ≤ 536870911 ∧ known f.ty ∧ fits f
 | [], _, _, _, f, hf => by simp at hf
 | g :: fs, last, h0, h, f, hf => by
  rw [ech] at h
  split at h
  ·rename_i hne
   exact absurd h hne
  ·rename_i hz
   have hz' : fck g last = 0 := by simpa using hz
   have hg : 0 ≤ g.no ∧ g.no ≤ 536870911 ∧ known g.ty ∧ fits g := by
    unfold fck at hz'
    split at hz'
    ·rename_i h1; exact absurd hz' h1
    ·rename_i h1
     have h1' : hck g last = 0 := by simpa using h1
     split at hz'
     ·rename_i h2
      unfold hck at h1'
      split at h1'
      ·omega
      ·rename_i h3
       split at h1'
       ·rename_i h4
        exact ⟨by omega, by omega, h4, h2⟩
       ·omega
     ·omega
   rcases List.mem_cons.1 hf with rfl | hf
   ·exact hg
   ·exact ech_all fs g.no hg.1 h f hf
theorem whl_pl {d : List B} : ∀ (k p : Nat) (last : Int) (c : Nat), p ≤ d.length → ∀ q e, (whl d k p last c).2 = some (q, e) → q ≤ d.length
 | 0, p, last, c, hp, q, e, h => by simp [whl] at h
 | k + 1, p, last, c, hp, q, e, h => by
  by_cases hlt : p < d.length
  ·rw [whl, if_pos hlt] at h
   cases hr : rh (d.drop p) last c with
   | er e' =>
    rw [hr] at h
    simp at h
    omega
   | ok no ty n =>
    rw [hr] at h
    simp only at h
    have h1 := rh_ok hr
    rw [List.length_drop] at h1
    cases hv : rv (d.drop (p + n)) ty with
    | er e' =>
     rw [hv] at h
     simp at h
     omega
    | ok num dat m =>
     rw [hv] at h
     have h2 := rv_ok hv
     rw [List.length_drop] at h2
     exact whl_pl k (p + n + m) no (c + 1) (by omega) q e h
  ·rw [whl, if_neg hlt] at h
   simp at h
theorem dpl_bd (d : List B) : 0 ≤ dpl (dwh d) ∧ dpl (dwh d) ≤ 4194304 := by
 unfold dpl dwh
 by_cases h : 4194304 < d.length
 ·rw [if_pos h]
  exact ⟨by decide, by decide⟩
 ·rw [if_neg h]
  have := whl_pl (d := d) d.length 0 0 0 (by omega)
  generalize (whl d d.length 0 0 0).2 = x at *
  cases x with
  | none => exact ⟨by decide, by decide⟩
  | some y =>
   obtain ⟨q, e⟩ := y
   have := this q e rfl
   simp only
   omega
theorem gf_mem {fs : List Fd} {i : Nat} (h : i < fs.length) : gf fs i ∈ fs := by
 rw [gf, List.getD_eq_getElem?_getD, List.getElem?_eq_getElem h]
 exact List.getElem_mem h
theorem ebs_take (fs : List Fd) (k : Nat) (h : k < fs.length) : (ebs (fs.take (k + 1))).length = (ebs (fs.take k)).length + (fby (gf fs k)).length := by
 rw [List.take_add_one, ebs_app, List.length_append, List.getElem?_eq_getElem h]
 simp [ebs_one, gf, List.getD_eq_getElem?_getD, List.getElem?_eq_getElem h]
theorem Fts.at {W : World} {b : Nat} {v : Value} {us : List Value} {fs : List Fd} (h : Fts W b v us fs) {i : Nat} (hi : i < fs.length) : ∃ g cap, v = .slice (some ⟨g, 0, none⟩) fs.length cap ∧ b ≤ g ∧ g < W.heap.size ∧ W.rangeAt g (i * 4) (frow (gf fs i) (gv us i)) := by
 obtain ⟨h1, h2, h3, _⟩ := h
 have h1' := h1
 obtain ⟨_, ⟨rfl, h0⟩ | ⟨g, cap, cur, rfl, hb, hg, hn, hm, hs, ht⟩⟩ := h1'
 ·omega
 ·refine ⟨g, cap, rfl, hb, lt_of_row hg, fun j x hx => ?_⟩
  have hj : j < 4 := by have := (List.getElem?_eq_some_iff.1 hx).1; exact this
  have := h1.cells (g := g) rfl (i * 4 + j) x (by rw [frs_at fs us i j h2 hi hj]; exact hx)
  rw [addr_add, Nat.zero_add] at this
  exact this
theorem wp_call_upW {P : Program} {o : Oper} {a : Act} {w : World} {K : Act → World → Prop} {Q : Exit → Act → World → Prop} {f : FuncId} {args : Array Value} (base : Nat) (F : Option Flt3) (R : Value → World → Prop) (B : World → Prop) (hx : (execOp a.eval o).run P w = .ok (.enter f args) w)
 (c : Calls P f args w fun e w' => Gup base F e w' (fun v => R v w') ∧ B w') (h : F = none → ∀ v w', R v w' → B w' → K (a.put o.dst v) w')
 (hp : ∀ x, F = some x → ∀ g w', base ≤ g → w'.heap[g]? = some (.cells (frw x) 130 (0, 0)) → B w' → Q (.panic [{ v := .iface 97 (.pointer (some ⟨g, 0, none⟩)), recovered := false }]) a w') : o.wp P a w K Q := by
 unfold Oper.wp
 rw [hx, Oper.upon_enter]
 refine c.mono fun e w' ⟨hG, hB⟩ => ?_
 cases F with
 | none =>
  obtain ⟨v, rfl, hv⟩ := hG
  exact h rfl v w' hv hB
 | some x =>
  obtain ⟨g, rfl, h1, h2⟩ := hG
  exact hp x rfl g w' h1 h2 hB
end Go.Proofs.YtgcpebhjehlacaaDoor
namespace Go.Proofs.YtgcpebhjehlacaaDoor
set_option maxRecDepth 100000
open Go Go.RowKit Go.Sort
attribute [local go_sem] setCell_drewN alloc_drewN
theorem But.setRow {g : Nat} (w : World) (cs : Array Value) : But g w (w.setRow g cs) := ⟨rfl, rfl, rfl, by simp, fun k _ hne => setRow_other w g k cs hne⟩
theorem But.keepBx {g : Nat} {w w' : World} (h : But g w w') {k : Nat} {c : Array Value} (hk : Bx w k c) (hne : k ≠ g) : Bx w' k c := by
 obtain ⟨T, hk⟩ := hk
 exact ⟨T, h.row hk hne⟩
theorem results_row_slot {P : Program} {fn : Func} {p q : Tmp} {ty : TypeId} (h : fn.results = #[.cell p ty, .tmp q]) (tmps : Array Value) (w : World) (g : Nat) (t : TypeId) (cs : Array Value) (fr : Nat × Nat) (d : TypeDesc) (v : Value)
 (hp : tmps.getD p undef = .pointer (some ⟨g, 0, none⟩)) (hg : w.heap[g]? = some (.cells cs t fr)) (hq : tmps.getD q undef = v)
 (hu : P.underlying ty = some d) (hd : (match d with | .struct _ | .array _ _ => true | _ => false) = true) (hi : (P.info? ty).map (·.size) = some cs.size) :
 (results fn tmps).run P w = .ok (.tuple #[.agg cs, v]) w := by
 have hp' : tmps[p]?.getD undef = .pointer (some ⟨g, 0, none⟩) := by simpa using hp
 have hq' : tmps[q]?.getD undef = v := by simpa using hq
 simp [results, h, hp', hq', asAddr, run_loadVar_row w g t ty cs fr d hg hu hd hi]
def CgtQ (base : Nat) (f : Option Flt3) (Q : World → Prop) (e : Ending) (w' : World) : Prop :=
 match f with
 | none => e = .returned .nilIface ∧ Q w'
 | some x => ∃ g, e = .returned (.iface 97 (.pointer (some ⟨g, 0, none⟩))) ∧ base ≤ g ∧ w'.heap[g]? = some (.cells (frw x) 130 (0, 0))
set_option maxRecDepth 100000 in
set_option maxHeartbeats 8000000 in
theorem a_caughtD (F : Option Flt3) (Q : World → Prop) (ca cb cc : Value) (bv : Nat) (w : World) (hbv : bv < w.heap.size)
 (hQ : ∀ V V', Q V → But w.heap.size V V' → Q V')
 (hD : ∀ V, Below w.heap.size w V → w.heap.size < V.heap.size → Calls Tryd.prog 29 #[ca, cb, cc] V fun e w' => Gup V.heap.size F e w' (fun v => v = .tuple #[] ∧ Q w') ∧ ((F ≠ none → Below V.heap.size V w') ∧ But bv V w')) :
 Calls Tryd.prog 26 #[.func (.func 29) #[] #[ca, cb, cc]] w fun e w' => CgtQ w.heap.size F Q e w' ∧ ((F ≠ none → Below w.heap.size w w') ∧ But bv w w') := by
 have h0 := hmf
 have hb0 : Below w.heap.size w (w.alloc (.cells #[.nilIface] 36)) := (Below.refl _ _).alloc (Nat.le_refl _) _
 have r0 := hp1_0 w (.cells #[.nilIface] 36)
 have cD := hD _ hb0 (by simp)
 clear hD
 go_enter_defers Tryd.func26, Tryd.ntmps26
 go_wp2_with (fail)
 refine cD.mono ?_
 rintro e_ w1 ⟨hG, hbn, hB⟩
 have r1 := hB.row r0 (by omega)
 have c1 : w1.cell? ⟨w.heap.size, 0, none⟩ = some .nilIface := by rw [cell_of_row _ _ _ _ _ _ r1]; rfl
 have f1 := row_frozen r1 0
 have hBw : But bv w w1 := (But.of hb0).trans hB
 cases F with
 | none =>
  obtain ⟨v, rfl, rfl, hQ1⟩ := hG
  have r2 := heap_setCell_same w1 w.heap.size 0 _ _ .nilIface r1
  have hB2 := But.set (g := w.heap.size) w1 .nilIface
  have hQ2 := hQ _ _ hQ1 hB2
  have hBF : But bv w (w1.setCell ⟨w.heap.size, 0, none⟩ .nilIface) := ⟨hB2.os.trans hBw.os, hB2.tape.trans hBw.tape, hB2.output.trans hBw.output, Nat.le_trans hBw.size hB2.size, fun k hk hne => (hB2.block k (Nat.lt_of_lt_of_le hk hBw.size) (by omega)).trans (hBw.block k hk hne)⟩
  have c2 : (w1.setCell ⟨w.heap.size, 0, none⟩ .nilIface).cell? ⟨w.heap.size, 0, none⟩ = some .nilIface := by rw [cell_of_row _ _ _ _ _ _ r2]; rfl
  go_wp2
  refine leaves_cons (f := 39) (args := #[.pointer (some ⟨w.heap.size, 0, none⟩)]) (by simp) (by simp [go_sem]) ?_
  refine (catch_idle ⟨w.heap.size, 0, none⟩ _).mono ?_
  rintro e u' w'' ⟨rfl, rfl, rfl⟩
  simp [Leaves, settle, results, Tryd.results26, go_sem, c2]
  exact ⟨⟨rfl, hQ2⟩, hBF⟩
 | some f =>
  obtain ⟨g, rfl, hg1, hg2⟩ := hG
  have hb1 := hbn (by simp)
  have hw := Below.after hb0 hb1
  have r2 := heap_setCell_same w1 w.heap.size 0 _ _ (.iface 97 (.pointer (some ⟨g, 0, none⟩))) r1
  have hw2 := hw.setCell (show w.heap.size ≤ (⟨w.heap.size, 0, none⟩ : Addr).block from Nat.le_refl _) (.iface 97 (.pointer (some ⟨g, 0, none⟩)))
  have c2 : (w1.setCell ⟨w.heap.size, 0, none⟩ (.iface 97 (.pointer (some ⟨g, 0, none⟩)))).cell? ⟨w.heap.size, 0, none⟩ = some (.iface 97 (.pointer (some ⟨g, 0, none⟩))) := by rw [cell_of_row _ _ _ _ _ _ r2]; rfl
  go_wp2
  refine leaves_cons (f := 39) (args := #[.pointer (some ⟨w.heap.size, 0, none⟩)]) (by simp) (by simp [go_sem]) ?_
  refine (catch_panicking ⟨w.heap.size, 0, none⟩ .nilIface g [] _ c1 f1).mono ?_
  rintro e u' w'' ⟨rfl, rfl, rfl⟩
  simp [Leaves, settle, results, Tryd.results26, go_sem, c2]
  rw [size_alloc1] at hg1
  exact ⟨⟨g, rfl, by omega, (heap_setCell_other w1 ⟨w.heap.size, 0, none⟩ g _ (show g ≠ w.heap.size by omega)).trans hg2⟩, hw2, But.of hw2⟩
end Go.Proofs.YtgcpebhjehlacaaDoor
namespace Go.Proofs.YtgcpebhjehlacaaDoor
set_option maxRecDepth 100000
open Go Go.RowKit Go.Sort
attribute [local go_sem] setCell_drewN alloc_drewN
/-! What decode finds, and what it reads, on trees. -/
section
variable (utf : List B → Bool) (flE : Nat → Nat → Int)
def ftN (k : Int) (l m : Nat) (f : Fd) : Int := plE8 utf flE k l m (.mk f.num f.dat [])
def itN (dec : List B → Int → Option Flt3) : List (List B) → Int → Option Flt3
 | [], _ => none
 | b :: bs, from_ => match dec b (from_ + ((en b.length).length : Int)) with
  | some e => some e
  | none => itN dec bs (from_ + ((en b.length).length : Int) + (b.length : Int))
def lsN (l m : Nat) (dec : List B → Int → Option Flt3) (d : List B) (at_ from_ : Int) : Option Flt3 :=
 if spe (sp d) ≠ 0 then some ⟨0, from_ + spa (sp d), spe (sp d)⟩
 else if wth ((spp (sp d)).length : Int) (l : Int) (m : Int) ≠ 0 then some ⟨0, at_, wth ((spp (sp d)).length : Int) (l : Int) (m : Int)⟩
 else itN dec (spp (sp d)) from_
def rdN (k : Int) (l m : Nat) (dec : List B → Int → Option Flt3) (f : Fd) (at_ : Int) : Option Flt3 :=
 if k = 8 then dec f.dat (at_ + ((fby f).length : Int) - (f.dat.length : Int))
 else if k = 9 then lsN l m dec f.dat at_ (at_ + ((fby f).length : Int) - (f.dat.length : Int))
 else rdE at_ (ftN utf flE k l m f)
def dsN (no k : Int) (l m : Nat) (dec : List B → Int → Option Flt3) (f : Fd) (at_ : Int) : Option Flt3 := if f.no ≠ no then some ⟨0, at_, 81⟩ else if f.ty ≠ wtA k then some ⟨0, at_, 82⟩ else rdN utf flE k l m dec f at_
def decN (g : List Fd → Int → Option Flt3) (b : List B) (from_ : Int) : Option Flt3 := if der (dwh b) ≠ 0 then some ⟨0, from_ + dpl (dwh b), der (dwh b)⟩ else g (dfs (dwh b)) from_
def dcT : List Slt → List Fd → Int → Option Flt3
 | [], [], _ => none
 | [], _ :: _, at_ => some ⟨0, at_, 81⟩
 | _ :: _, [], at_ => some ⟨0, at_, 81⟩
 | .mk no k l m sub :: ts, f :: fs, at_ => match dsN utf flE no k l m (decN (dcT sub)) f at_ with
  | some x => some x
  | none => dcT ts fs (at_ + ((fby f).length : Int))
def deT (ts : List Slt) (b : List B) (from_ : Int) : Option Flt3 := decN (dcT utf flE ts) b from_
def dsT (t : Slt) (f : Fd) (at_ : Int) : Option Flt3 := dsN utf flE t.no t.kind t.least t.most (deT utf flE t.sub) f at_
def rdT (t : Slt) (f : Fd) (at_ : Int) : Option Flt3 := rdN utf flE t.kind t.least t.most (deT utf flE t.sub) f at_
theorem dcT_cons (t : Slt) (ts : List Slt) (f : Fd) (fs : List Fd) (at_ : Int) : dcT utf flE (t :: ts) (f :: fs) at_ = match dsT utf flE t f at_ with
 | some x => some x
 | none => dcT utf flE ts fs (at_ + ((fby f).length : Int)) := by
 cases t
 rw [dcT]
 rfl
theorem dcT_step {ts : List Slt} {fs : List Fd} {at_ : Int} {k : Nat} (h1 : k < ts.length) (h2 : k < fs.length) : dcT utf flE (ts.drop k) (fs.drop k) at_ = match dsT utf flE (gs ts k) (gf fs k) at_ with
 | some x => some x
 | none => dcT utf flE (ts.drop (k + 1)) (fs.drop (k + 1)) (at_ + ((fby (gf fs k)).length : Int)) := by
 rw [sdrop ts k h1, fdrop fs k h2, dcT_cons]
theorem dcT_short {ts : List Slt} {fs : List Fd} {at_ : Int} {k : Nat} (h1 : k < ts.length) (h2 : fs.length = k) : dcT utf flE (ts.drop k) (fs.drop k) at_ = some ⟨0, at_, 81⟩ := by
 rw [sdrop ts k h1, List.drop_of_length_le (show fs.length ≤ k by omega), dcT]
theorem dcT_long {ts : List Slt} {fs : List Fd} {at_ : Int} {k : Nat} (h1 : ts.length = k) (h2 : k < fs.length) : dcT utf flE (ts.drop k) (fs.drop k) at_ = some ⟨0, at_, 81⟩ := by
 rw [List.drop_of_length_le (by omega : ts.length ≤ k), fdrop fs k h2, dcT]
theorem dcT_end {ts : List Slt} {fs : List Fd} {at_ : Int} {k : Nat} (h1 : ts.length = k) (h2 : fs.length = k) : dcT utf flE (ts.drop k) (fs.drop k) at_ = none := by
 rw [List.drop_of_length_le (by omega : ts.length ≤ k), List.drop_of_length_le (by omega : fs.length ≤ k), dcT]
end
def vlN (k : Int) (dv : List B → VT) (f : Fd) : VT := if k = 8 then dv f.dat else if k = 9 then .mk 0 [] ((spp (sp f.dat)).map dv) else .mk f.num f.dat []
def vlT : List Slt → List Fd → List VT
 | .mk _ k _ _ sub :: ts, f :: fs => vlN k (fun b => .mk 0 [] (vlT sub (dfs (dwh b)))) f :: vlT ts fs
 | _, _ => []
def mgT (ts : List Slt) (b : List B) : VT := .mk 0 [] (vlT ts (dfs (dwh b)))
def vlS (t : Slt) (f : Fd) : VT := vlN t.kind (mgT t.sub) f
theorem vlT_cons (t : Slt) (ts : List Slt) (f : Fd) (fs : List Fd) : vlT (t :: ts) (f :: fs) = vlS t f :: vlT ts fs := by
 cases t
 rw [vlT]
 rfl
theorem vlT_nil (fs : List Fd) : vlT [] fs = [] := by rw [vlT]; intros; contradiction
theorem vlT_len : ∀ (ts : List Slt) (fs : List Fd), ts.length = fs.length → (vlT ts fs).length = ts.length
 | [], [], _ => by rw [vlT_nil]; rfl
 | t :: ts, f :: fs, h => by rw [vlT_cons, List.length_cons, List.length_cons, vlT_len ts fs (by simpa using h)]
 | [], _ :: _, h => by simp at h
 | _ :: _, [], h => by simp at h
theorem vlT_take : ∀ (ts : List Slt) (fs : List Fd) (k : Nat), k < ts.length → k < fs.length → vlT (ts.take (k + 1)) (fs.take (k + 1)) = vlT (ts.take k) (fs.take k) ++ [vlS (gs ts k) (gf fs k)]
 | [], _, _, h, _ => by simp at h
 | _ :: _, [], _, _, h => by simp at h
 | t :: ts, f :: fs, 0, _, _ => by
  rw [List.take_succ_cons, List.take_succ_cons, List.take_zero, List.take_zero, vlT_cons, List.take_zero, List.take_zero, vlT_nil]
  rfl
 | t :: ts, f :: fs, k + 1, h, hk => by
  rw [List.take_succ_cons, List.take_succ_cons, vlT_cons, vlT_take ts fs k (by simpa using h) (by simpa using hk), List.take_succ_cons, List.take_succ_cons, vlT_cons]
  rfl
def vrs : List VR → List Value
 | [] => []
 | x :: xs => (vrv x).toList ++ vrs xs
theorem vrs_snoc : ∀ (xs : List VR) (x : VR), vrs (xs ++ [x]) = vrs xs ++ (vrv x).toList
 | [], x => by simp [vrs]
 | y :: xs, x => by rw [List.cons_append, vrs, vrs, vrs_snoc xs x, List.append_assoc]
theorem vrs_at : ∀ (xs : List VR) (i j : Nat), i < xs.length → j < 3 → (vrs xs)[i * 3 + j]? = (vrv (gx xs i)).toList[j]?
 | [], _, _, h, _ => by simp at h
 | x :: xs, 0, j, _, hj => by
  rw [vrs, Nat.zero_mul, Nat.zero_add, List.getElem?_append_left (by show j < 3; exact hj)]
  rfl
 | x :: xs, i + 1, j, h, hj => by
  rw [vrs, List.getElem?_append_right (by show 3 ≤ _; omega)]
  have : (i + 1) * 3 + j - (vrv x).toList.length = i * 3 + j := by show _ - 3 = _; omega
  rw [this, vrs_at xs i j (by simpa using h) hj]
  rfl
def PaW (W : World) (lo base : Nat) (v : Value) (xs : List VR) (ps : List VT) : Prop :=
 W.ownsRow base 27 3 v ps.length (vrs xs) ∧ xs.length = ps.length ∧ ∀ i, i < ps.length → VtM W (fun b => lo ≤ b ∧ v.ownBlock ≠ some b) (gx xs i) (gvt ps i)
theorem paw_nil (W : World) (lo base : Nat) : PaW W lo base (.slice none 0 0) [] [] := ⟨⟨rfl, .inl ⟨rfl, rfl⟩⟩, rfl, fun i hi => by simp at hi⟩
theorem PaW.keep {W V : World} {lo base : Nat} {v : Value} {xs : List VR} {ps : List VT} (h : PaW W lo base v xs ps) (hb : Below W.heap.size W V) : PaW V lo base v xs ps :=
 ⟨own_keep_row h.1 hb, h.2.1, fun i hi => (h.2.2 i hi).blw hb⟩
theorem gx_lo {xs : List VR} {x : VR} {i : Nat} (h : i < xs.length) : gx (xs ++ [x]) i = gx xs i := by
 rw [gx, gx, List.getD_eq_getElem?_getD, List.getElem?_append_left h, ← List.getD_eq_getElem?_getD]
theorem gx_hi {xs : List VR} {x : VR} : gx (xs ++ [x]) xs.length = x := by
 rw [gx, List.getD_eq_getElem?_getD, List.getElem?_append_right (Nat.le_refl _), Nat.sub_self]; rfl
theorem gvt_lo {xs : List VT} {x : VT} {i : Nat} (h : i < xs.length) : gvt (xs ++ [x]) i = gvt xs i := by
 rw [gvt, gvt, List.getD_eq_getElem?_getD, List.getElem?_append_left h, ← List.getD_eq_getElem?_getD]
theorem gvt_hi {xs : List VT} {x : VT} : gvt (xs ++ [x]) xs.length = x := by
 rw [gvt, List.getD_eq_getElem?_getD, List.getElem?_append_right (Nat.le_refl _), Nat.sub_self]; rfl
theorem PaW.snoc {W W' : World} {lo base : Nat} {v v' : Value} {xs : List VR} {ps : List VT} {x : VR} {X : VT} (h : PaW W lo base v xs ps) (hx : VtM W (fun b => lo ≤ b ∧ v.ownBlock ≠ some b) x X)
 (ho : W'.ownsRow base 27 3 v' (ps.length + 1) (vrs xs ++ (vrv x).toList)) (hg : W.grownBy W' v.ownBlock) (hk : Nx W v v') : PaW W' lo base v' (xs ++ [x]) (ps ++ [X]) := by
 have hst : Sty W W' (fun b => lo ≤ b ∧ v.ownBlock ≠ some b) (fun b => lo ≤ b ∧ v'.ownBlock ≠ some b) := ⟨hg.size, fun b hb hS => ⟨hg.block b hb (fun e => hS.2 e.symm), hS.1, fun e => by
  rcases hk with q | ⟨k, q, q2⟩
  ·exact hS.2 (q.symm.trans e)
  ·rw [q] at e
   injection e with e
   omega⟩⟩
 have h21 := h.2.1
 refine ⟨by rw [List.length_append, List.length_singleton, vrs_snoc]; exact ho, by rw [List.length_append, List.length_append, h21]; rfl, fun i hi => ?_⟩
 rw [List.length_append, List.length_singleton] at hi
 rcases Nat.lt_or_ge i ps.length with q | q
 ·rw [gx_lo (by omega), gvt_lo q]
  exact (h.2.2 i q).keep hst
 ·obtain rfl : i = ps.length := by omega
  rw [gvt_hi, ← h21, gx_hi]
  exact hx.keep hst
theorem PaW.msg {W : World} {lo base : Nat} {v : Value} {xs : List VR} {ps : List VT} (h : PaW W lo base v xs ps) (hl : lo ≤ base) (hm : ps.length ≤ 5864062014634) : ∃ pa pc, v = .slice pa ps.length pc ∧ VtM W (fun b => lo ≤ b) ⟨0, none, 0, 0, pa, ps.length, pc⟩ (.mk 0 [] ps) := by
 obtain ⟨h1, h2, h3⟩ := h
 have h1' := h1
 have hB0 : BysB W (.slice none 0 0) ([] : List B) := ⟨⟨none, 0, rfl, by decide, fun j hj => by simp [bl] at hj, by simp [bl]⟩, by decide, fun a l c e _ => by cases e; rfl⟩
 have hs : ∀ i, i < ps.length → VtM W (fun b => lo ≤ b) (gx xs i) (gvt ps i) := fun i hi => (h3 i hi).keep ⟨Nat.le_refl _, fun b _ hS => ⟨rfl, hS.1⟩⟩
 obtain ⟨_, ⟨rfl, h0⟩ | ⟨g, cap, cur, rfl, hb, hg, hn, hmx, hsz, ht⟩⟩ := h1'
 ·refine ⟨none, 0, by rw [h0], .mk ⟨0, none, 0, 0, none, ps.length, 0⟩ [] xs ps (by show 0 < 18446744073709551616; decide) rfl (by decide) hB0 (Nat.le_refl _) (fun a e => by cases lv_some e) rfl h2 (by omega) hm (fun a e => by cases lv_some e) (fun i hi => by omega) hs⟩
 ·refine ⟨some ⟨g, 0, none⟩, cap, rfl, .mk ⟨0, none, 0, 0, some ⟨g, 0, none⟩, ps.length, cap⟩ [] xs ps (by show 0 < 18446744073709551616; decide) rfl (by decide) hB0 (Nat.le_refl _) (fun a e => by cases lv_some e) rfl h2 hn hm (fun a e => by cases lv_some e; exact ⟨Nat.le_trans hl hb, lt_of_row hg⟩) (fun i hi => ⟨g, 0, rfl, fun j x hx => ?_⟩) hs⟩
  have hj : j < 3 := by have := (List.getElem?_eq_some_iff.1 hx).1; exact this
  have := h1.cells (g := g) rfl (i * 3 + j) x (by rw [vrs_at xs i j (by omega) hj]; exact hx)
  rw [add_off] at this
  rw [← this, Nat.zero_add]
end Go.Proofs.YtgcpebhjehlacaaDoor

