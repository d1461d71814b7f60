import Derived.Test.YtnbkdlfkacbfjaaProg
import Derived.WalkKit
import Derived.WalkSpells
import Derived.WalkLawsBesides
import Derived.Lib.QuietBelow
import Derived.Laws.BitsAllLaws
import Derived.BigQuiet
import Derived.WalkMore
import Derived.Test.YtnbkdlfkacbfjaaKit
import Derived.OrdersHeld
import Derived.Deep.RegionHeld3
import Derived.Test.YtnbkdlfkacbfjaaXdm
namespace Go.Proofs.Ytnbkdlfkacbfjaa
open Go Go.RowKit Go.Sort
attribute [local go_sem] setCell_drewN alloc_drewN

theorem nri_cases (bs : List B) (p : Int) : (∃ v n : Nat, nri bs p = .tuple #[.int .u64 (v : Int), .int .i64 (p + (n : Int)), .int .i64 0] ∧ 0 ≤ p ∧ p.toNat + n ≤ bs.length ∧ 0 < n ∧ (bs.drop p.toNat).take n = en v ∧ v < 18446744073709551616) ∨ (∃ a b e : Int, nri bs p = .tuple #[.int .u64 a, .int .i64 b, .int .i64 e] ∧ (e == 0) = false) := by
  unfold nri
  by_cases h : 0 ≤ p ∧ p ≤ bs.length
  · rw [if_pos h]
    cases hr : rd 0 (bs.drop p.toNat) with
    | er e => exact .inr ⟨_, _, _, rfl, by rcases rd_er _ _ _ hr with h | h <;> subst h <;> rfl⟩
    | ok v n =>
      have h1 := rd0_len hr
      rw [List.length_drop] at h1
      refine .inl ⟨v, n, ?_, h.1, by omega, h1.1, (rd_take hr).2, (rd0_ok hr).2.2⟩
      show Value.tuple #[.int .u64 (v : Int), .int .i64 ((p.toNat + n : Nat) : Int), .int .i64 0] = _
      rw [Int.natCast_add, Int.toNat_of_nonneg h.1]
  · rw [if_neg h]
    exact .inr ⟨_, _, _, rfl, rfl⟩
theorem ri_er2 {l : List B} {e : Int} (h : ri l = .er e) : e ≠ 0 := by rcases ri_er h with h | h <;> subst h <;> decide
theorem spl_er2 : ∀ (f p c : Nat) (l : List B) (e : Int) (q : Nat), spl f p c l = .er e q → e ≠ 0
  | 0, _, _, _, _, _, h => by rw [spl] at h; cases h
  | f + 1, p, c, l, e, q, h => by
    rw [spl] at h
    split at h
    · cases h
    split at h
    · injection h with h1 h2; subst h1; decide
    cases hr : ri l with
    | er e' => rw [hr] at h; injection h with h1 h2; subst h1; exact ri_er2 hr
    | ok x n =>
      rw [hr] at h
      simp only at h
      cases hs : spl f (p + n) (c + 1) (l.drop n) with
      | er e' q' => rw [hs] at h; injection h with h1 h2; subst h1; exact spl_er2 _ _ _ _ _ _ hs
      | ok qs => rw [hs] at h; cases h
/-- P7.9: what Split takes is the one form of what it tells. -/
theorem jn_mem : ∀ (ps : List (List B)) (x : List B), x ∈ ps → x.length ≤ (jn ps).length
  | [], x, h => by simp at h
  | p :: l, x, h => by
    rw [jn, itm, List.length_append, List.length_append]
    rcases List.mem_cons.1 h with rfl | h
    · omega
    · have := jn_mem l x h
      omega
theorem sp_cases (d : List B) : (spe (sp d) = 0 ∧ jer (spp (sp d)) = 0 ∧ jout (spp (sp d)) = d ∧ (spp (sp d)).length ≤ 4096 ∧ ∀ i, i < (spp (sp d)).length → (gp (spp (sp d)) i).length ≤ 140737488351232) ∨ (spe (sp d) == 0) = false := by
  by_cases h1 : 4194304 < d.length
  · have : sp d = .er 2 0 := if_pos h1
    rw [this]
    exact .inr rfl
  · have hsp : sp d = spl d.length 0 0 d := if_neg h1
    cases hs : spl d.length 0 0 d with
    | er e q =>
      rw [hsp, hs]
      exact .inr (by simpa [spe] using spl_er2 _ _ _ _ _ _ hs)
    | ok ps =>
      rw [hsp, hs]
      obtain ⟨h2, h3⟩ := spl_ok _ _ _ _ _ (Nat.le_refl _) (by omega) hs
      have hb : ¬ jbad ps := by unfold jbad; rw [h2]; omega
      refine .inl ⟨rfl, by simp [spp, jer, hb], by simp [spp, jout, hb, h2], by simp only [spp]; omega, fun i hi => ?_⟩
      have hm : gp ps i ∈ ps := by
        rw [gp, List.getD_eq_getElem?_getD, List.getElem?_eq_getElem (by simpa [spp] using hi)]
        exact List.getElem_mem _
      have := jn_mem ps _ hm
      rw [h2] at this
      simp only [spp]
      omega
theorem der_cases (d : List B) : der (dwh d) = 0 ∨ (der (dwh d) == 0) = false := by
  by_cases h : der (dwh d) = 0
  · exact .inl h
  · exact .inr (by simpa using h)
/-- The field 1 with the number 150. -/
def f150 : Fd := ⟨1, 0, 150, []⟩
theorem f150_ok : Fok f150 := ⟨by decide, by decide, by decide, by decide⟩
theorem f150_er : eer [f150] = 0 := by decide +kernel
theorem f150_out : eout [f150] = [8#8, 150#8, 1#8] := by decide +kernel
theorem fds_one (W : World) (f : Fd) (u : Value) (hu : BysB W u f.dat) (hf : Fok f) : Fds (W.alloc (.cells (frow f u).toArray 35)) (.slice (some ⟨W.heap.size, 0, none⟩) 1 1) [f] := by
  refine ⟨some ⟨W.heap.size, 0, none⟩, 1, rfl, by simp, by simp, (fun e => by cases e), fun i hi => ?_⟩
  obtain rfl : i = 0 := by simpa using hi
  refine ⟨W.heap.size, 0, u, rfl, by simp, fun j x hx => ?_, hu.keep ((Below.refl _ _).alloc (Nat.le_refl _) _), hf⟩
  have := new_cells4 W (frow f u).toArray 35 j x hx
  rw [addr_add] at this
  simpa using this
theorem whl_oks {d : List B} (hd : d.length ≤ 4194304) : ∀ (k p : Nat) (last : Int) (c : Nat) , ∀ x ∈ (whl d k p last c).1, Fok x.2
  | 0, _, _, _, x, h => by simp [whl] at h
  | k + 1, p, last, c, x, h => by
    by_cases hlt : p < d.length
    · rw [whl, if_pos hlt] at h
      cases hr : rh (d.drop p) last c with
      | er e' => rw [hr] at h; simp at h
      | ok no ty n =>
        rw [hr] at h
        simp only at h
        cases hv : rv (d.drop (p + n)) ty with
        | er e' => rw [hv] at h; simp at h
        | ok num dat m =>
          rw [hv] at h
          simp only at h
          rcases List.mem_cons.1 h with rfl | h
          · have h1 := rv_ok hv
            have h2 := rh_ok hr
            rw [List.length_drop] at h1
            exact ⟨h1.2.1, by show dat.length ≤ _; omega, by show _ ≤ no; omega, by show no ≤ _; omega⟩
          · exact whl_oks hd k _ _ _ x h
    · rw [whl, if_neg hlt] at h; simp at h
theorem dfs_oks (d : List B) : ∀ i, i < (dfs (dwh d)).length → Fok (gf (dfs (dwh d)) i) := by
  intro i hi
  have hm : gf (dfs (dwh d)) i ∈ dfs (dwh d) := by
    rw [gf, List.getD_eq_getElem?_getD, List.getElem?_eq_getElem hi]
    exact List.getElem_mem hi
  generalize gf (dfs (dwh d)) i = f at hm
  clear hi
  unfold dfs at hm
  split at hm
  · obtain ⟨x, hx, rfl⟩ := List.mem_map.1 hm
    unfold dwh at hx
    split at hx
    · simp at hx
    · exact whl_oks (by omega) _ _ _ _ x hx
  · simp at hm
theorem dfs_len (d : List B) (h : der (dwh d) = 0) : (dfs (dwh d)).length ≤ 64 := by
  have h1 := (dec_enc h).1
  unfold eer at h1
  split at h1
  · simp at h1
  · omega

end Go.Proofs.Ytnbkdlfkacbfjaa

