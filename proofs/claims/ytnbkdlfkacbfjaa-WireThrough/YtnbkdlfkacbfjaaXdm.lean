import Derived.Test.YtnbkdlfkacbfjaaXdc
import Derived.Test.YtnbkdlfkacbfjaaWo
namespace Go.Proofs.Ytnbkdlfkacbfjaa
open Go Go.RowKit Go.Sort

/-! What is read is the one form of what it comes to; what is written is read back. -/
theorem rd_take {l : List B} {v n : Nat} (h : rd 0 l = .ok v n) : l = en v ++ l.drop n ∧ l.take n = en v := by
  obtain ⟨⟨r, hr⟩, hn, _⟩ := rd0_ok h
  subst hn
  constructor
  · conv => lhs; rw [hr]
    rw [hr, List.drop_left]
  · rw [hr, List.take_left]
theorem rh_form {l : List B} {last : Int} {c : Nat} {no ty : Int} {n : Nat} (num : Nat) (dat : List B) (h : rh l last c = .ok no ty n) : l = en (fhd ⟨no, ty, num, dat⟩) ++ l.drop n ∧ hck ⟨no, ty, num, dat⟩ last = 0 := by
  unfold rh at h
  cases hr : rd 0 l with
  | er e => rw [hr] at h; cases h
  | ok v m =>
    rw [hr] at h
    simp only at h
    by_cases h1 : c = 64
    · rw [if_pos h1] at h; cases h
    rw [if_neg h1] at h
    by_cases h2 : 536870911 < v / 8
    · rw [if_pos h2] at h; cases h
    rw [if_neg h2] at h
    by_cases h3 : hck ⟨((v : Int) / 8), ((v : Int) % 8), 0, []⟩ last = 0
    · rw [if_neg (by rw [h3]; simp)] at h
      injection h with e1 e2 e3
      subst e1 e2 e3
      refine ⟨?_, h3⟩
      have : fhd ⟨(v : Int) / 8, (v : Int) % 8, num, dat⟩ = v := by
        show 8 * ((v : Int) / 8).toNat + ((v : Int) % 8).toNat = v
        omega
      rw [this]
      exact (rd_take hr).1
    · rw [if_pos h3] at h; cases h
theorem take_fx (l : List B) (k : Nat) (h : k ≤ l.length) : l = fx k (fxv (l.take k)) ++ l.drop k := by
  have := fx_fxv (l.take k)
  rw [List.length_take, Nat.min_eq_left h] at this
  rw [this, List.take_append_drop]
theorem rv_form {l : List B} {no ty : Int} {num m : Nat} {dat : List B} (hk : known ty) (h : rv l ty = .ok num dat m) : l = fvl ⟨no, ty, num, dat⟩ ++ l.drop m ∧ fits ⟨no, ty, num, dat⟩ := by
  unfold rv at h
  rcases hk with rfl | rfl | rfl | rfl
  · rw [if_neg (by decide), if_neg (by decide), if_neg (by decide)] at h
    cases hr : rd 0 l with
    | er e => rw [hr] at h; cases h
    | ok v n =>
      rw [hr] at h
      injection h with e1 e2 e3
      subst e1 e2 e3
      exact ⟨(rd_take hr).1, by simp [fits]⟩
  · rw [if_pos rfl] at h
    by_cases hl : l.length < 8
    · rw [if_pos hl] at h; cases h
    · rw [if_neg hl] at h
      injection h with e1 e2 e3
      subst e1 e2 e3
      exact ⟨take_fx l 8 (by omega), by simp [fits]⟩
  · rw [if_neg (by decide), if_neg (by decide), if_pos rfl] at h
    cases hr : ri l with
    | er e => rw [hr] at h; cases h
    | ok p n =>
      rw [hr] at h
      injection h with e1 e2 e3
      subst e1 e2 e3
      exact ⟨(ri_ok hr).2.2.2.1, by simp [fits]⟩
  · rw [if_neg (by decide), if_pos rfl] at h
    by_cases hl : l.length < 4
    · rw [if_pos hl] at h; cases h
    · rw [if_neg hl] at h
      injection h with e1 e2 e3
      subst e1 e2 e3
      refine ⟨take_fx l 4 (by omega), ?_⟩
      have := fxv_lt2 (l.take 4)
      rw [List.length_take, Nat.min_eq_left (by omega)] at this
      simp [fits]
      omega
theorem whl_ok {d : List B} : ∀ (k p : Nat) (last : Int) (c : Nat), d.length - p ≤ k → p ≤ d.length → c ≤ 64 → (whl d k p last c).2 = none →
    ech ((whl d k p last c).1.map (·.2)) last = 0 ∧ ebs ((whl d k p last c).1.map (·.2)) = d.drop p ∧ (whl d k p last c).1.length + c ≤ 64
  | 0, p, last, c, hk, hp, hc, _ => by
    have : p = d.length := by omega
    subst this
    simp [whl, ech, ebs, hc]
  | k + 1, p, last, c, hk, hp, hc, h => by
    by_cases hlt : p < d.length
    · rw [whl, if_pos hlt] at h ⊢
      cases hr : rh (d.drop p) last c with
      | er e' => rw [hr] at h; simp at h
      | ok no ty n =>
        rw [hr] at h
        simp only at h ⊢
        obtain ⟨hn0, hnl, hc64, hty, _⟩ := rh_ok hr
        rw [List.length_drop] at hnl
        cases hv : rv (d.drop (p + n)) ty with
        | er e' => rw [hv] at h; simp at h
        | ok num dat m =>
          rw [hv] at h
          simp only at h ⊢
          have hml := (rv_ok hv).1
          rw [List.length_drop] at hml
          obtain ⟨i1, i2, i3⟩ := whl_ok k (p + n + m) no (c + 1) (by omega) (by omega) (by omega) h
          obtain ⟨f1, f2⟩ := rh_form num dat hr
          obtain ⟨f3, f4⟩ := rv_form (no := no) hty hv
          refine ⟨?_, ?_, by rw [List.length_cons]; omega⟩
          · have hf : fck ⟨no, ty, num, dat⟩ last = 0 := by rw [fck, if_neg (by rw [f2]; simp), if_pos f4]
            rw [List.map_cons, ech, if_neg (by rw [hf]; simp)]
            exact i1
          · rw [List.map_cons, ebs, i2, fby, List.append_assoc]
            rw [List.drop_drop] at f1 f3
            rw [← f3, ← f1]
    · rw [whl, if_neg hlt] at h ⊢
      have : p = d.length := by omega
      subst this
      simp [ech, ebs, hc]
theorem der_none {x : List (Nat × Fd) × Option (Nat × Int)} (hx : ∀ q e, x.2 = some (q, e) → e ≠ 0) (h : der x = 0) : x.2 = none := by
  cases hc : x.2 with
  | none => rfl
  | some y =>
    obtain ⟨q, e⟩ := y
    simp only [der, hc] at h
    exact absurd h (hx q e hc)
theorem dwh_er {d : List B} : ∀ q e, (dwh d).2 = some (q, e) → e ≠ 0 := by
  intro q e h
  unfold dwh at h
  split at h
  · simp at h; omega
  · exact whl_er _ _ _ _ h
/-- P7.8: what Decode takes is the one form of what it tells. -/
theorem dec_enc {d : List B} (h : der (dwh d) = 0) : eer (dfs (dwh d)) = 0 ∧ eout (dfs (dwh d)) = d := by
  have hn := der_none dwh_er h
  by_cases h1 : 4194304 < d.length
  · unfold dwh at hn
    rw [if_pos h1] at hn
    simp at hn
  · have hd : dwh d = whl d d.length 0 0 0 := if_neg h1
    rw [hd] at hn ⊢
    obtain ⟨i1, i2, i3⟩ := whl_ok d.length 0 0 0 (by omega) (by omega) (by omega) hn
    have hf : dfs (whl d d.length 0 0 0) = (whl d d.length 0 0 0).1.map (·.2) := by simp [dfs, hn]
    rw [List.drop_zero] at i2
    have he : eer (dfs (whl d d.length 0 0 0)) = 0 := by
      rw [hf, eer, if_neg (by rw [List.length_map]; omega), if_neg (by rw [i1]; simp), if_neg (by rw [i2]; omega)]
    exact ⟨he, by rw [eout, if_pos he, hf, i2]⟩
theorem spl_ok : ∀ (f p c : Nat) (l : List B) (ps : List (List B)), l.length ≤ f → c ≤ 4096 → spl f p c l = .ok ps → jn ps = l ∧ ps.length + c ≤ 4096
  | 0, p, c, l, ps, hf, hc, h => by
    have : l = [] := List.length_eq_zero_iff.1 (by omega)
    rw [spl] at h
    injection h with h
    subst h this
    exact ⟨rfl, by simp; exact hc⟩
  | f + 1, p, c, l, ps, hf, hc, h => by
    rw [spl] at h
    by_cases h0 : l = []
    · rw [if_pos h0] at h
      injection h with h
      subst h h0
      exact ⟨rfl, by simp; exact hc⟩
    rw [if_neg h0] at h
    by_cases h1 : c = 4096
    · rw [if_pos h1] at h; cases h
    rw [if_neg h1] at h
    cases hr : ri l with
    | er e => rw [hr] at h; cases h
    | ok x n =>
      rw [hr] at h
      simp only at h
      obtain ⟨r1, r2, r3, r4, r5⟩ := ri_ok hr
      cases hs : spl f (p + n) (c + 1) (l.drop n) with
      | er e q => rw [hs] at h; cases h
      | ok qs =>
        rw [hs] at h
        injection h with h
        subst h
        obtain ⟨i1, i2⟩ := spl_ok f (p + n) (c + 1) (l.drop n) qs (by rw [List.length_drop]; omega) (by omega) hs
        exact ⟨by rw [jn, i1, ← r4], by rw [List.length_cons]; omega⟩
end Go.Proofs.Ytnbkdlfkacbfjaa
