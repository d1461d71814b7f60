import Derived.Test.YtleeadbceljfbaaGreatDoorXdq
namespace Go.Proofs.YtleeadbceljfbaaGreatDoor
set_option maxRecDepth 100000
open Go Go.RowKit Go.Sort

/-! Parts of a list of fields. -/
theorem gf_take (fs : List Fd) (k i : Nat) (h : i < k) : gf (fs.take k) i = gf fs i := by
  rw [gf, gf, List.getD_eq_getElem?_getD, List.getD_eq_getElem?_getD, List.getElem?_take_of_lt h]
theorem Fds.take {W : World} {ao : Option Addr} {cap l : Nat} {fs : List Fd} (h : Fds W (.slice ao l cap) fs) (k : Nat) (hk : k ≤ fs.length) : Fds W (.slice ao k cap) (fs.take k) := by
  obtain ⟨ao', cap', e, h1, h2, h3, h4⟩ := h
  cases e
  have hl : (fs.take k).length = k := by rw [List.length_take, Nat.min_eq_left hk]
  refine ⟨ao, cap, by rw [hl], by omega, by omega, h3, fun i hi => ?_⟩
  rw [hl] at hi
  rw [gf_take fs k i hi]
  exact h4 i (by omega)
theorem ech_take : ∀ (fs : List Fd) (last : Int) (k : Nat), ech fs last = 0 → ech (fs.take k) last = 0
  | [], _, _, _ => by simp [ech]
  | f :: fs, last, 0, _ => by simp [ech]
  | f :: fs, last, k + 1, h => by
    rw [List.take_succ_cons]
    rw [ech] at h ⊢
    by_cases hf : fck f last = 0
    · rw [if_neg (by rw [hf]; simp)] at h ⊢
      exact ech_take fs _ k h
    · rw [if_pos hf] at h
      exact absurd h hf
theorem eer_ok {fs : List Fd} : eer fs = 0 ↔ fs.length ≤ 64 ∧ ech fs 0 = 0 ∧ (ebs fs).length ≤ 4194304 := by
  unfold eer
  by_cases h1 : 64 < fs.length
  · rw [if_pos h1]
    constructor
    · intro h; cases h
    · intro h; omega
  rw [if_neg h1]
  by_cases h2 : ech fs 0 = 0
  · rw [if_neg (by rw [h2]; simp)]
    by_cases h3 : 4194304 < (ebs fs).length
    · rw [if_pos h3]
      constructor
      · intro h; cases h
      · intro h; omega
    · rw [if_neg h3]
      exact ⟨fun _ => ⟨by omega, h2, by omega⟩, fun _ => rfl⟩
  · rw [if_pos h2]
    exact ⟨fun h => absurd h h2, fun h => absurd h.2.1 h2⟩
theorem eer_take {fs : List Fd} (k : Nat) (h : eer fs = 0) : eer (fs.take k) = 0 := by
  obtain ⟨h1, h2, h3⟩ := eer_ok.1 h
  exact eer_ok.2 ⟨by rw [List.length_take]; omega, ech_take fs 0 k h2, by have := ebs_mono fs k; omega⟩
theorem ebs_split (fs : List Fd) (c : Nat) : ebs fs = ebs (fs.take c) ++ ebs (fs.drop c) := by
  rw [← ebs_app, List.take_append_drop]
/-- What is left of a message that is cut where a field ends. -/
theorem cut_end {fs : List Fd} (c : Nat) : (ebs fs).take (ebs (fs.take c)).length = ebs (fs.take c) := by
  conv => lhs; rw [ebs_split fs c]
  rw [List.take_left]
/-- What is left of a message that is cut within a field. -/
theorem cut_in {fs : List Fd} {c n : Nat} (hc : c < fs.length) (h1 : (ebs (fs.take c)).length ≤ n) (h2 : n < (ebs (fs.take (c + 1))).length) : (ebs fs).take n = ebs (fs.take c) ++ (fby (gf fs c)).take (n - (ebs (fs.take c)).length) := by
  rw [ebs_snoc fs c hc, List.length_append] at h2
  rw [ebs_split fs c, fdrop_at fs c hc, ebs, List.take_append, List.take_of_length_le h1, List.take_append_of_le_length (by omega)]
/-- P7.10, as Decode tells it. -/
theorem dec_cut {fs : List Fd} {c n : Nat} (he : eer fs = 0) (hok : ∀ f ∈ fs, Fok f) (hc : c < fs.length) (h1 : (ebs (fs.take c)).length < n) (h2 : n < (ebs (fs.take (c + 1))).length) :
    der (dwh ((ebs fs).take n)) = 73 ∧ dfs (dwh ((ebs fs).take n)) = [] ∧ dpl (dwh ((ebs fs).take n)) = (((ebs (fs.take c)).length + (if n - (ebs (fs.take c)).length < (en (fhd (gf fs c))).length then 0 else (en (fhd (gf fs c))).length) : Nat) : Int) := by
  obtain ⟨e1, e2, e3⟩ := eer_ok.1 he
  have h2' := h2
  rw [ebs_snoc fs c hc, List.length_append] at h2'
  have hm := ebs_mono fs (c + 1)
  have hfs : fs.take c ++ gf fs c :: fs.drop (c + 1) = fs := by rw [← fdrop_at fs c hc, List.take_append_drop]
  have hw := whl_cut (fs := fs.take c) (gs := fs.drop (c + 1)) (f := gf fs c) (k := n - (ebs (fs.take c)).length) (by rw [hfs]; exact e2) (by rw [List.length_take]; omega) (by rw [hfs]; exact hok) (by omega) (by omega)
  rw [← cut_in hc (by omega) h2] at hw
  have hd : dwh ((ebs fs).take n) = whl ((ebs fs).take n) ((ebs fs).take n).length 0 0 0 := if_neg (by rw [List.length_take]; omega)
  rw [hd]
  simp only [der, dfs, dpl, hw]
  exact ⟨trivial, trivial, trivial⟩
/-- P7.10, where a field ends. -/
theorem dec_end {fs : List Fd} {c : Nat} (he : eer fs = 0) (hok : ∀ f ∈ fs, Fok f) : der (dwh ((ebs fs).take (ebs (fs.take c)).length)) = 0 ∧ dpl (dwh ((ebs fs).take (ebs (fs.take c)).length)) = 0 ∧ dfs (dwh ((ebs fs).take (ebs (fs.take c)).length)) = fs.take c := by
  rw [cut_end]
  exact enc_dec (eer_take c he) (fun f hf => hok f (List.mem_of_mem_take hf))
end Go.Proofs.YtleeadbceljfbaaGreatDoor
