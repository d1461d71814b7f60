import Derived.Test.YtleeadbceljfbaaGreatDoorXdp
namespace Go.Proofs.YtleeadbceljfbaaGreatDoor
set_option maxRecDepth 100000
open Go Go.RowKit Go.Sort

/-! What is cut short. -/
theorem rd_short (n : Nat) : ∀ i k, i ≤ 9 → n < 2 ^ (64 - 7 * i) → k < (en n).length → rd i ((en n).take k) = .er 73 := by
  induction n using Nat.strongRecOn with
  | ind n ih =>
    intro i k hi hn hk
    cases k with
    | zero => rw [List.take_zero, rd]
    | succ k =>
      by_cases h : n < 128
      · rw [en_lo h] at hk
        simp at hk
      · rw [en_hi h, List.length_cons] at hk
        rw [en_hi h, List.take_succ_cons, rd, b_of _ (by omega), if_pos (by omega)]
        have hi9 : i ≠ 9 := by
          intro e
          subst e
          simp at hn
          omega
        rw [if_neg hi9]
        have h7 : n / 128 < 2 ^ (64 - 7 * (i + 1)) := by
          have e1 : 64 - 7 * i = (64 - 7 * (i + 1)) + 7 := by omega
          rw [e1, Nat.pow_add] at hn
          exact Nat.div_lt_of_lt_mul (by rw [Nat.mul_comm]; exact hn)
        rw [ih (n / 128) (by omega) (i + 1) k (by omega) h7 (by omega)]
theorem rd0_cut {n k : Nat} (h : n < 18446744073709551616) (hk : k < (en n).length) : rd 0 ((en n).take k) = .er 73 := rd_short n 0 k (by decide) (by simpa using h) hk
theorem rh_cut {f : Fd} {last : Int} {c k : Nat} (h : fhd f < 18446744073709551616) (hk : k < (en (fhd f)).length) : rh ((en (fhd f)).take k) last c = .er 73 := by
  unfold rh
  rw [rd0_cut h hk]
theorem ri_cut {p : List B} {k : Nat} (h : p.length < 18446744073709551616) (hk : k < (itm p).length) : ri ((itm p).take k) = .er 73 := by
  unfold itm at hk ⊢
  rw [List.length_append] at hk
  unfold ri
  by_cases q : k < (en p.length).length
  · rw [List.take_append_of_le_length (by omega), rd0_cut h q]
  · have e : (en p.length ++ p).take k = en p.length ++ p.take (k - (en p.length).length) := by
      rw [List.take_append, List.take_of_length_le (by omega)]
    rw [e, rd0_en h]
    simp only
    rw [if_pos]
    simp only [List.length_append, List.length_take]
    omega
theorem rv_cut {f : Fd} {k : Nat} (hk : known f.ty) (ho : Fok f) (h : k < (fvl f).length) : rv ((fvl f).take k) f.ty = .er 73 := by
  obtain ⟨no, ty, num, dat⟩ := f
  obtain ⟨o1, o2, _⟩ := ho
  simp only at hk o1 o2 ⊢
  rcases hk with rfl | rfl | rfl | rfl
  · replace h : k < (en num).length := h
    show rv ((en num).take k) 0 = .er 73
    unfold rv
    rw [if_neg (by decide), if_neg (by decide), if_neg (by decide), rd0_cut o1 h]
  · replace h : k < (fx 8 num).length := h
    rw [fx_len] at h
    show rv ((fx 8 num).take k) 1 = .er 73
    unfold rv
    rw [if_pos rfl, if_pos (by rw [List.length_take, fx_len]; omega)]
  · replace h : k < (itm dat).length := h
    show rv ((itm dat).take k) 2 = .er 73
    unfold rv
    rw [if_neg (by decide), if_neg (by decide), if_pos rfl, ri_cut (by omega) h]
  · replace h : k < (fx 4 num).length := h
    rw [fx_len] at h
    show rv ((fx 4 num).take k) 5 = .er 73
    unfold rv
    rw [if_neg (by decide), if_pos rfl, if_pos (by rw [List.length_take, fx_len]; omega)]
/-- The fields that stand whole, then what is left. -/
theorem whl_app {d : List B} : ∀ (fs : List Fd) (pre r : List B) (last : Int) (c k : Nat), d = pre ++ (ebs fs ++ r) → ech fs last = 0 → c + fs.length ≤ 64 → 0 ≤ last → (∀ f ∈ fs, Fok f) → d.length - pre.length ≤ k →
    ∃ (xs : List (Nat × Fd)) (j : Nat) (la : Int), xs.map (·.2) = fs ∧ d.length - (pre ++ ebs fs).length ≤ j ∧ 0 ≤ la ∧ (∀ f gs, ech (fs ++ f :: gs) last = 0 → fck f la = 0) ∧ whl d k pre.length last c = (xs ++ (whl d j (pre ++ ebs fs).length la (c + fs.length)).1, (whl d j (pre ++ ebs fs).length la (c + fs.length)).2)
  | [], pre, r, last, c, k, hd, _, _, h0, _, hk => by
    refine ⟨[], k, last, rfl, by simpa [ebs] using hk, h0, fun f gs h => ?_, by simp [ebs]⟩
    rw [List.nil_append, ech] at h
    by_cases hf : fck f last = 0
    · exact hf
    · rw [if_pos hf] at h; exact h
  | f :: fs, pre, r, last, c, k, hd, he, hc, h0, hok, hk => by
    rw [List.length_cons] at hc
    rw [ech] at he
    by_cases hf : fck f last = 0
    · rw [if_neg (by rw [hf]; simp)] at he
      obtain ⟨f1, f2, f3, f4⟩ := fck_ok hf
      have hh : hck f last = 0 := by
        unfold fck at hf
        by_cases q : hck f last = 0
        · exact q
        · rw [if_pos q] at hf; exact hf
      have hp := en_pos (fhd f)
      have hd2 : d = (pre ++ fby f) ++ (ebs fs ++ r) := by rw [hd, ebs]; simp only [List.append_assoc]
      have hlt : pre.length < d.length := by
        rw [hd2, fby]
        simp only [List.length_append]
        omega
      have hr : rh (d.drop pre.length) last c = .ok f.no f.ty (en (fhd f)).length := by
        rw [hd, List.drop_left, ebs, fby]
        simp only [List.append_assoc]
        exact rh_of _ hh h0 (by omega)
      have hv : rv (d.drop (pre.length + (en (fhd f)).length)) f.ty = .ok f.num f.dat (fvl f).length := by
        rw [hd, ← List.drop_drop, List.drop_left, ebs, fby]
        simp only [List.append_assoc, List.drop_left]
        exact rv_of _ f3 f4 (hok f (List.mem_cons_self ..))
      obtain ⟨j, hj, hst⟩ := whl_step hlt hk hr hv
      have hpl : pre.length + (en (fhd f)).length + (fvl f).length = (pre ++ fby f).length := by rw [fby]; simp only [List.length_append]; omega
      rw [hpl] at hst hj
      obtain ⟨xs, j2, la, i1, i2, i3, i4, i5⟩ := whl_app fs (pre ++ fby f) r f.no (c + 1) j hd2 he (by omega) (by omega) (fun g hg => hok g (List.mem_cons_of_mem _ hg)) hj
      have e1 : pre ++ fby f ++ ebs fs = pre ++ ebs (f :: fs) := by rw [ebs, List.append_assoc]
      have e2 : c + 1 + fs.length = c + (f :: fs).length := by rw [List.length_cons]; omega
      rw [e1] at i2 i5
      rw [e2] at i5
      refine ⟨(pre.length, f) :: xs, j2, la, by rw [List.map_cons, i1], i2, i3, fun g gs h => ?_, ?_⟩
      · rw [List.cons_append, ech, if_neg (by rw [hf]; simp)] at h
        exact i4 g gs h
      · rw [hst, i5]
        rfl
    · rw [if_pos hf] at he
      exact absurd he hf
/-- P7.10: a message that is cut within a field. -/
theorem whl_cut {fs gs : List Fd} {f : Fd} {k : Nat} (he : ech (fs ++ f :: gs) 0 = 0) (hl : fs.length < 64) (hok : ∀ g ∈ fs ++ f :: gs, Fok g) (h0 : 0 < k) (hk : k < (fby f).length) :
    (whl (ebs fs ++ (fby f).take k) (ebs fs ++ (fby f).take k).length 0 0 0).2 = some ((ebs fs).length + (if k < (en (fhd f)).length then 0 else (en (fhd f)).length), 73) := by
  have hpre : ∀ (a : List Fd) (last : Int) (b : List Fd), ech (a ++ b) last = 0 → ech a last = 0 := by
    intro a
    induction a with
    | nil => intro _ _ _; rfl
    | cons x a ih =>
      intro last b h
      rw [List.cons_append, ech] at h
      rw [ech]
      by_cases hx : fck x last = 0
      · rw [if_neg (by rw [hx]; simp)] at h ⊢
        exact ih _ _ h
      · rw [if_pos hx] at h; exact absurd h hx
  obtain ⟨xs, j, la, i1, i2, i3, i4, i5⟩ := whl_app (d := ebs fs ++ (fby f).take k) fs [] ((fby f).take k) 0 0 (ebs fs ++ (fby f).take k).length rfl (hpre fs 0 _ he) (by omega) (by omega) (fun g hg => hok g (List.mem_append_left _ hg)) (by omega)
  simp only [List.length_nil, List.nil_append, Nat.zero_add] at i2 i5
  rw [i5]
  simp only
  have hf := i4 f gs he
  obtain ⟨f1, f2, f3, f4⟩ := fck_ok hf
  have hh : hck f la = 0 := by
    unfold fck at hf
    by_cases q : hck f la = 0
    · exact q
    · rw [if_pos q] at hf; exact hf
  have ht := known_lt f3
  have hfh : fhd f < 18446744073709551616 := by unfold fhd; omega
  have hlen : (ebs fs ++ (fby f).take k).length = (ebs fs).length + k := by rw [List.length_append, List.length_take, Nat.min_eq_left (by omega)]
  have hlt : (ebs fs).length < (ebs fs ++ (fby f).take k).length := by omega
  by_cases q : k < (en (fhd f)).length
  · rw [if_pos q, Nat.add_zero]
    have hr : rh ((ebs fs ++ (fby f).take k).drop (ebs fs).length) la fs.length = .er 73 := by
      rw [List.drop_left, fby, List.take_append_of_le_length (by omega)]
      exact rh_cut hfh q
    rw [whl_head hlt i2 hr]
  · rw [if_neg q]
    have et : (fby f).take k = en (fhd f) ++ (fvl f).take (k - (en (fhd f)).length) := by
      rw [fby, List.take_append, List.take_of_length_le (by omega)]
    have hr : rh ((ebs fs ++ (fby f).take k).drop (ebs fs).length) la fs.length = .ok f.no f.ty (en (fhd f)).length := by
      rw [List.drop_left, et]
      exact rh_of _ hh i3 (by omega)
    have hv : rv ((ebs fs ++ (fby f).take k).drop ((ebs fs).length + (en (fhd f)).length)) f.ty = .er 73 := by
      rw [← List.drop_drop, List.drop_left, et, List.drop_left]
      refine rv_cut f3 (hok f (List.mem_append_right _ (List.mem_cons_self ..))) ?_
      unfold fby at hk
      rw [List.length_append] at hk
      omega
    rw [whl_value hlt i2 hr hv]
end Go.Proofs.YtleeadbceljfbaaGreatDoor
