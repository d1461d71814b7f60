import Derived.Test.YtlglalhddeldbabXdn
namespace Go.Proofs.Ytlglalhddeldbab
open Go Go.RowKit Go.Sort

/-! What Encode writes, Decode reads back. -/
theorem rh_of {f : Fd} {last : Int} {c : Nat} (r : List B) (h : hck f last = 0) (h0 : 0 ≤ last) (hc : c ≠ 64) : rh (en (fhd f) ++ r) last c = .ok f.no f.ty (en (fhd f)).length := by
  obtain ⟨no, ty, num, dat⟩ := f
  unfold hck at h
  simp only at h
  by_cases h1 : no ≤ last ∨ 536870911 < no
  · rw [if_pos h1] at h; cases h
  rw [if_neg h1] at h
  by_cases h2 : known ty
  · have ht := known_lt h2
    have hv : fhd ⟨no, ty, num, dat⟩ = 8 * no.toNat + ty.toNat := rfl
    have hlt : fhd ⟨no, ty, num, dat⟩ < 18446744073709551616 := by rw [hv]; omega
    unfold rh
    rw [rd0_en hlt r]
    simp only
    rw [if_neg hc, if_neg (by rw [hv]; omega)]
    have e1 : ((fhd ⟨no, ty, num, dat⟩ : Nat) : Int) / 8 = no := by rw [hv]; omega
    have e2 : ((fhd ⟨no, ty, num, dat⟩ : Nat) : Int) % 8 = ty := by rw [hv]; omega
    rw [e1, e2, if_neg]
    simp only [hck, ne_eq, Decidable.not_not]
    rw [if_neg h1, if_pos h2]
  · rw [if_neg h2] at h; cases h
theorem ri_itm2 (p r : List B) (h : p.length < 18446744073709551616) : ri (itm p ++ r) = .ok p (itm p).length := by
  unfold ri itm
  rw [List.append_assoc, rd0_en h (p ++ r)]
  simp only
  rw [if_neg (by simp only [List.length_append]; omega), List.drop_left, List.take_left, List.length_append]
theorem rv_of {f : Fd} (r : List B) (hk : known f.ty) (hf : fits f) (ho : Fok f) : rv (fvl f ++ r) f.ty = .ok f.num f.dat (fvl f).length := by
  obtain ⟨no, ty, num, dat⟩ := f
  obtain ⟨o1, o2, _⟩ := ho
  simp only at hk o1 o2 ⊢
  unfold fits at hf
  simp only at hf
  rcases hk with rfl | rfl | rfl | rfl
  · rw [if_neg (by decide)] at hf
    obtain ⟨rfl, _⟩ := hf
    show rv (en num ++ r) 0 = .ok num [] (en num).length
    unfold rv
    rw [if_neg (by decide), if_neg (by decide), if_neg (by decide), rd0_en o1 r]
  · rw [if_neg (by decide)] at hf
    obtain ⟨rfl, _⟩ := hf
    show rv (fx 8 num ++ r) 1 = .ok num [] (fx 8 num).length
    unfold rv
    have hl := fx_len 8 num
    rw [if_pos rfl, if_neg (by rw [List.length_append, hl]; omega), List.take_append_of_le_length (by omega), List.take_of_length_le (by omega), fxv_fx, hl]
    congr 1
    exact Nat.mod_eq_of_lt (by simpa using o1)
  · rw [if_pos rfl] at hf
    subst hf
    show rv (itm dat ++ r) 2 = .ok 0 dat (itm dat).length
    unfold rv
    rw [if_neg (by decide), if_neg (by decide), if_pos rfl, ri_itm2 dat r (by omega)]
  · rw [if_neg (by decide)] at hf
    obtain ⟨rfl, h5⟩ := hf
    show rv (fx 4 num ++ r) 5 = .ok num [] (fx 4 num).length
    unfold rv
    have hl := fx_len 4 num
    rw [if_neg (by decide), if_pos rfl, if_neg (by rw [List.length_append, hl]; omega), List.take_append_of_le_length (by omega), List.take_of_length_le (by omega), fxv_fx, hl]
    congr 1
    have := h5 rfl
    exact Nat.mod_eq_of_lt (by simp; omega)
theorem fby_pos (f : Fd) : 0 < (en (fhd f)).length := en_pos _
theorem whl_ebs {d : List B} : ∀ (fs : List Fd) (pre : List B) (last : Int) (c k : Nat), d = pre ++ ebs fs → ech fs last = 0 → c + fs.length ≤ 64 → 0 ≤ last → (∀ f ∈ fs, Fok f) → d.length - pre.length ≤ k →
    (whl d k pre.length last c).2 = none ∧ (whl d k pre.length last c).1.map (·.2) = fs
  | [], pre, last, c, k, hd, _, _, _, _, _ => by
    have hl : ¬ pre.length < d.length := by rw [hd, ebs, List.append_nil]; omega
    rw [whl_end hl]
    exact ⟨rfl, rfl⟩
  | f :: fs, pre, last, c, k, hd, he, hc, h0, hok, hk => by
    rw [List.length_cons] at hc
    rw [ech] at he
    by_cases hf : fck f last = 0
    · rw [if_neg (by rw [hf]; simp)] at he
      obtain ⟨f1, f2, f3, f4⟩ := fck_ok hf
      have hh : hck f last = 0 := by
        unfold fck at hf
        by_cases q : hck f last = 0
        · exact q
        · rw [if_pos q] at hf; exact hf
      have hp := en_pos (fhd f)
      have hd2 : d = (pre ++ fby f) ++ ebs fs := by rw [hd, ebs, List.append_assoc]
      have hlt : pre.length < d.length := by
        rw [hd2, fby]
        simp only [List.length_append]
        omega
      have hr : rh (d.drop pre.length) last c = .ok f.no f.ty (en (fhd f)).length := by
        rw [hd, List.drop_left, ebs, fby, List.append_assoc]
        exact rh_of _ hh h0 (by omega)
      have hv : rv (d.drop (pre.length + (en (fhd f)).length)) f.ty = .ok f.num f.dat (fvl f).length := by
        rw [hd, ← List.drop_drop, List.drop_left, ebs, fby, List.append_assoc, List.drop_left]
        exact rv_of _ f3 f4 (hok f (List.mem_cons_self ..))
      obtain ⟨j, hj, hst⟩ := whl_step hlt hk hr hv
      have hpl : pre.length + (en (fhd f)).length + (fvl f).length = (pre ++ fby f).length := by rw [fby]; simp only [List.length_append]; omega
      rw [hpl] at hst hj
      obtain ⟨i1, i2⟩ := whl_ebs fs (pre ++ fby f) f.no (c + 1) j hd2 he (by omega) (by omega) (fun g hg => hok g (List.mem_cons_of_mem _ hg)) hj
      rw [hst]
      exact ⟨i1, by rw [List.map_cons, i2]⟩
    · rw [if_pos hf] at he
      exact absurd he hf
/-- P7.8: fields that Encode takes are read back. -/
theorem enc_dec {fs : List Fd} (h : eer fs = 0) (hok : ∀ f ∈ fs, Fok f) : der (dwh (ebs fs)) = 0 ∧ dpl (dwh (ebs fs)) = 0 ∧ dfs (dwh (ebs fs)) = fs := by
  unfold eer at h
  by_cases h1 : 64 < fs.length
  · rw [if_pos h1] at h; cases h
  rw [if_neg h1] at h
  by_cases h2 : ech fs 0 = 0
  · rw [if_neg (by rw [h2]; simp)] at h
    by_cases h3 : 4194304 < (ebs fs).length
    · rw [if_pos h3] at h; cases h
    have hd : dwh (ebs fs) = whl (ebs fs) (ebs fs).length 0 0 0 := if_neg h3
    obtain ⟨i1, i2⟩ := whl_ebs (d := ebs fs) fs [] 0 0 (ebs fs).length rfl h2 (by omega) (by omega) hok (by omega)
    simp only [List.length_nil] at i1 i2
    rw [hd]
    simp [der, dpl, dfs, i1, i2]
  · rw [if_pos h2] at h
    exact absurd h h2
end Go.Proofs.Ytlglalhddeldbab
