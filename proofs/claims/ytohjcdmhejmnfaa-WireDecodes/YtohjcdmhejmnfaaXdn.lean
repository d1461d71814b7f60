import Derived.Test.YtohjcdmhejmnfaaProg
import Derived.WalkKit
import Derived.WalkSpells
import Derived.WalkLawsBesides
import Derived.Lib.QuietBelow
import Derived.Laws.BitsAllLaws
import Derived.BigQuiet
import Derived.WalkMore
import Derived.Test.YtohjcdmhejmnfaaKit
import Derived.OrdersHeld
import Derived.Deep.RegionHeld3
import Derived.Test.YtohjcdmhejmnfaaXdm
namespace Go.Proofs.Ytohjcdmhejmnfaa
open Go Go.RowKit Go.Sort
attribute [local go_sem] setCell_drewN alloc_drewN

theorem nri_cases (bs : List B) (p : Int) : (∃ v n : Nat, nri bs p = .tuple #[.int .u64 (v : Int), .int .i64 (p + (n : Int)), .int .i64 0] ∧ 0 ≤ p ∧ p.toNat + n ≤ bs.length ∧ 0 < n ∧ (bs.drop p.toNat).take n = en v ∧ v < 18446744073709551616) ∨ (∃ a b e : Int, nri bs p = .tuple #[.int .u64 a, .int .i64 b, .int .i64 e] ∧ (e == 0) = false) := by
  unfold nri
  by_cases h : 0 ≤ p ∧ p ≤ bs.length
  · rw [if_pos h]
    cases hr : rd 0 (bs.drop p.toNat) with
    | er e => exact .inr ⟨_, _, _, rfl, by rcases rd_er _ _ _ hr with h | h <;> subst h <;> rfl⟩
    | ok v n =>
      have h1 := rd0_len hr
      rw [List.length_drop] at h1
      refine .inl ⟨v, n, ?_, h.1, by omega, h1.1, (rd_take hr).2, (rd0_ok hr).2.2⟩
      show Value.tuple #[.int .u64 (v : Int), .int .i64 ((p.toNat + n : Nat) : Int), .int .i64 0] = _
      rw [Int.natCast_add, Int.toNat_of_nonneg h.1]
  · rw [if_neg h]
    exact .inr ⟨_, _, _, rfl, rfl⟩
theorem ri_er2 {l : List B} {e : Int} (h : ri l = .er e) : e ≠ 0 := by rcases ri_er h with h | h <;> subst h <;> decide
theorem spl_er2 : ∀ (f p c : Nat) (l : List B) (e : Int) (q : Nat), spl f p c l = .er e q → e ≠ 0
  | 0, _, _, _, _, _, h => by rw [spl] at h; cases h
  | f + 1, p, c, l, e, q, h => by
    rw [spl] at h
    split at h
    · cases h
    split at h
    · injection h with h1 h2; subst h1; decide
    cases hr : ri l with
    | er e' => rw [hr] at h; injection h with h1 h2; subst h1; exact ri_er2 hr
    | ok x n =>
      rw [hr] at h
      simp only at h
      cases hs : spl f (p + n) (c + 1) (l.drop n) with
      | er e' q' => rw [hs] at h; injection h with h1 h2; subst h1; exact spl_er2 _ _ _ _ _ _ hs
      | ok qs => rw [hs] at h; cases h
/-- P7.9: what Split takes is the one form of what it tells. -/
theorem jn_mem : ∀ (ps : List (List B)) (x : List B), x ∈ ps → x.length ≤ (jn ps).length
  | [], x, h => by simp at h
  | p :: l, x, h => by
    rw [jn, itm, List.length_append, List.length_append]
    rcases List.mem_cons.1 h with rfl | h
    · omega
    · have := jn_mem l x h
      omega
theorem sp_cases (d : List B) : (spe (sp d) = 0 ∧ jer (spp (sp d)) = 0 ∧ jout (spp (sp d)) = d ∧ (spp (sp d)).length ≤ 4096 ∧ ∀ i, i < (spp (sp d)).length → (gp (spp (sp d)) i).length ≤ 140737488351232) ∨ (spe (sp d) == 0) = false := by
  by_cases h1 : 4194304 < d.length
  · have : sp d = .er 2 0 := if_pos h1
    rw [this]
    exact .inr rfl
  · have hsp : sp d = spl d.length 0 0 d := if_neg h1
    cases hs : spl d.length 0 0 d with
    | er e q =>
      rw [hsp, hs]
      exact .inr (by simpa [spe] using spl_er2 _ _ _ _ _ _ hs)
    | ok ps =>
      rw [hsp, hs]
      obtain ⟨h2, h3⟩ := spl_ok _ _ _ _ _ (Nat.le_refl _) (by omega) hs
      have hb : ¬ jbad ps := by unfold jbad; rw [h2]; omega
      refine .inl ⟨rfl, by simp [spp, jer, hb], by simp [spp, jout, hb, h2], by simp only [spp]; omega, fun i hi => ?_⟩
      have hm : gp ps i ∈ ps := by
        rw [gp, List.getD_eq_getElem?_getD, List.getElem?_eq_getElem (by simpa [spp] using hi)]
        exact List.getElem_mem _
      have := jn_mem ps _ hm
      rw [h2] at this
      simp only [spp]
      omega
theorem der_cases (d : List B) : der (dwh d) = 0 ∨ (der (dwh d) == 0) = false := by
  by_cases h : der (dwh d) = 0
  · exact .inl h
  · exact .inr (by simpa using h)
/-- The field 1 with the number 150. -/
def f150 : Fd := ⟨1, 0, 150, []⟩
theorem f150_ok : Fok f150 := ⟨by decide, by decide, by decide, by decide⟩
theorem f150_er : eer [f150] = 0 := by decide +kernel
theorem f150_out : eout [f150] = [8#8, 150#8, 1#8] := by decide +kernel
theorem fds_one (W : World) (f : Fd) (u : Value) (hu : BysB W u f.dat) (hf : Fok f) : Fds (W.alloc (.cells (frow f u).toArray 38)) (.slice (some ⟨W.heap.size, 0, none⟩) 1 1) [f] := by
  refine ⟨some ⟨W.heap.size, 0, none⟩, 1, rfl, by simp, by simp, (fun e => by cases e), fun i hi => ?_⟩
  obtain rfl : i = 0 := by simpa using hi
  refine ⟨W.heap.size, 0, u, rfl, by simp, fun j x hx => ?_, hu.keep ((Below.refl _ _).alloc (Nat.le_refl _) _), hf⟩
  have := new_cells4 W (frow f u).toArray 38 j x hx
  rw [addr_add] at this
  simpa using this
theorem whl_oks {d : List B} (hd : d.length ≤ 4194304) : ∀ (k p : Nat) (last : Int) (c : Nat) , ∀ x ∈ (whl d k p last c).1, Fok x.2
  | 0, _, _, _, x, h => by simp [whl] at h
  | k + 1, p, last, c, x, h => by
    by_cases hlt : p < d.length
    · rw [whl, if_pos hlt] at h
      cases hr : rh (d.drop p) last c with
      | er e' => rw [hr] at h; simp at h
      | ok no ty n =>
        rw [hr] at h
        simp only at h
        cases hv : rv (d.drop (p + n)) ty with
        | er e' => rw [hv] at h; simp at h
        | ok num dat m =>
          rw [hv] at h
          simp only at h
          rcases List.mem_cons.1 h with rfl | h
          · have h1 := rv_ok hv
            have h2 := rh_ok hr
            rw [List.length_drop] at h1
            exact ⟨h1.2.1, by show dat.length ≤ _; omega, by show _ ≤ no; omega, by show no ≤ _; omega⟩
          · exact whl_oks hd k _ _ _ x h
    · rw [whl, if_neg hlt] at h; simp at h
theorem dfs_oks (d : List B) : ∀ i, i < (dfs (dwh d)).length → Fok (gf (dfs (dwh d)) i) := by
  intro i hi
  have hm : gf (dfs (dwh d)) i ∈ dfs (dwh d) := by
    rw [gf, List.getD_eq_getElem?_getD, List.getElem?_eq_getElem hi]
    exact List.getElem_mem hi
  generalize gf (dfs (dwh d)) i = f at hm
  clear hi
  unfold dfs at hm
  split at hm
  · obtain ⟨x, hx, rfl⟩ := List.mem_map.1 hm
    unfold dwh at hx
    split at hx
    · simp at hx
    · exact whl_oks (by omega) _ _ _ _ x hx
  · simp at hm
theorem dfs_len (d : List B) (h : der (dwh d) = 0) : (dfs (dwh d)).length ≤ 64 := by
  have h1 := (dec_enc h).1
  unfold eer at h1
  split at h1
  · simp at h1
  · omega

set_option maxRecDepth 100000 in
set_option maxHeartbeats 8000000 in
theorem canon_any (bs : List B) (p : Int) (W : World) (v : Value) (hB : BysB W v bs) (hcap : ∀ a l c, v = .slice a l c → l ≤ c) : Calls Try.prog 6 #[v, .int .i64 p] W fun e w' => e = .returned (.bool true) ∧ Below W.heap.size W w' := by
  have hlen := hB.2.1
  obtain ⟨ao, cap, rfl⟩ := hB.form
  have hca : bs.length ≤ cap := hcap _ _ _ rfl
  have cX := a_num bs p W _ hB
  go_enter Try.func6, Try.ntmps6
  rcases nri_cases bs p with ⟨n0, n, hn, hp0, hpn, hn0, htk, hv64⟩ | ⟨a0, b0, e0, hn, he0⟩
  · obtain ⟨m, rfl⟩ : ∃ m : Nat, p = (m : Int) := ⟨p.toNat, (Int.toNat_of_nonneg hp0).symm⟩
    rw [hn, ← Int.natCast_add] at cX
    rw [Int.toNat_natCast] at hpn htk
    have htk2 : Hid ((bs.drop m).take (m + n - m) = en n0) := hide (by rw [Nat.add_sub_cancel_left]; exact htk)
    have hmq : m < m + n := by omega
    clear hn htk hn0 hp0
    generalize m + n = q at *
    have hsl := sl_mid ao bs.length cap m q (by omega) (by omega)
    have hD := bysB_mid hB (m := m) (n := q) (by omega) hpn hca
    rw [htk2.out] at hD
    go_wp2_with (fail)
    refine cX.mono ?_
    rintro e_ w0 ⟨rfl, hw⟩
    replace hB := hB.keep hw
    replace hD := hD.keep hw
    clear cX htk2
    have d1 : decide ((m : Int) < 0) = false := by simp
    have d2 : decide ((q : Int) ≤ (m : Int)) = false := by simp; omega
    have d3 : decide ((q : Int) > (bs.length : Int)) = false := by simp; omega
    go_wp2_with (fail)
    have hbd : Below w0.heap.size w0 w0.drew := below_drN (Below.refl _ _) 1
    replace hw := Below.after hw hbd
    replace hB := hB.keep hbd
    replace hD := hD.keep hbd
    clear hbd
    have hS : True := trivial
    refine wp_region_noPanic ?_
    refine wp_region_held (S := fun _ => True) (by kernel_rfl) ?_
    change wpAnyH _ _ _ _ _ _ _ _ (World.drew _)
    generalize w0.drew = w1 at *
    refine wpAnyH_take (i := 0) (v := ?v1) rfl (by kernel_rfl) (by kernel_rfl) (by kernel_rfl) (fun _ _ _ h => h) (Or.inl ⟨by rfl, ?y1⟩) hS ?r1
    case y1 =>
      intro w_ hS_
      go_simp
      try with_reducible rfl
    simp only [Act.put, List.getElem_toArray, List.getElem_cons_zero, List.setIfInBounds_toArray, List.set_cons_succ, List.set_cons_zero]
    refine wpAnyH_take (i := 1) (v := .bool false) rfl (by kernel_rfl) (by kernel_rfl) (by kernel_rfl) (fun _ _ _ h => h) (Or.inl ⟨by rfl, ?y2⟩) hS ?r2
    case y2 =>
      intro w_ hS_
      go_simp
      try exact d1
    simp only [Act.put, List.getElem_toArray, List.getElem_cons_succ, List.getElem_cons_zero, List.setIfInBounds_toArray, List.set_cons_succ, List.set_cons_zero]
    refine wpAnyH_take (i := 2) (v := ?v3) rfl (by kernel_rfl) (by kernel_rfl) (by kernel_rfl) (fun _ _ _ h => h) (Or.inl ⟨by rfl, ?y3⟩) hS ?r3
    case y3 =>
      intro w_ hS_
      go_simp
      try with_reducible rfl
    simp only [Act.put, List.getElem_toArray, List.getElem_cons_succ, List.getElem_cons_zero, List.setIfInBounds_toArray, List.set_cons_succ, List.set_cons_zero]
    refine wpAnyH_take (i := 3) (v := ?v4) rfl (by kernel_rfl) (by kernel_rfl) (by kernel_rfl) (fun _ _ _ h => h) (Or.inl ⟨by rfl, ?y4⟩) hS ?r4
    case y4 =>
      intro w_ hS_
      go_simp
      try with_reducible rfl
    simp only [Act.put, List.getElem_toArray, List.getElem_cons_succ, List.getElem_cons_zero, List.setIfInBounds_toArray, List.set_cons_succ, List.set_cons_zero]
    refine wpAnyH_take (i := 4) (v := ?v5) rfl (by kernel_rfl) (by kernel_rfl) (by kernel_rfl) (fun _ _ _ h => h) (Or.inl ⟨by rfl, ?y5⟩) hS ?r5
    case y5 =>
      intro w_ hS_
      go_simp
      try with_reducible rfl
    simp only [Act.put, List.getElem_toArray, List.getElem_cons_succ, List.getElem_cons_zero, List.setIfInBounds_toArray, List.set_cons_succ, List.set_cons_zero]
    refine wpAnyH_take (i := 5) (v := .bool false) rfl (by kernel_rfl) (by kernel_rfl) (by kernel_rfl) (fun _ _ _ h => h) (Or.inl ⟨by rfl, ?y6⟩) hS ?r6
    case y6 =>
      intro w_ hS_
      go_simp
      try exact d2
    simp only [Act.put, List.getElem_toArray, List.getElem_cons_succ, List.getElem_cons_zero, List.setIfInBounds_toArray, List.set_cons_succ, List.set_cons_zero]
    refine wpAnyH_take (i := 6) (v := ?v7) rfl (by kernel_rfl) (by kernel_rfl) (by kernel_rfl) (fun _ _ _ h => h) (Or.inl ⟨by rfl, ?y7⟩) hS ?r7
    case y7 =>
      intro w_ hS_
      go_simp
      try with_reducible rfl
    simp only [Act.put, List.getElem_toArray, List.getElem_cons_succ, List.getElem_cons_zero, List.setIfInBounds_toArray, List.set_cons_succ, List.set_cons_zero]
    refine wpAnyH_take (i := 7) (v := ?v8) rfl (by kernel_rfl) (by kernel_rfl) (by kernel_rfl) (fun _ _ _ h => h) (Or.inl ⟨by rfl, ?y8⟩) hS ?r8
    case y8 =>
      intro w_ hS_
      go_simp
      try with_reducible rfl
    simp only [Act.put, List.getElem_toArray, List.getElem_cons_succ, List.getElem_cons_zero, List.setIfInBounds_toArray, List.set_cons_succ, List.set_cons_zero]
    refine wpAnyH_take (i := 8) (v := ?v9) rfl (by kernel_rfl) (by kernel_rfl) (by kernel_rfl) (fun _ _ _ h => h) (Or.inl ⟨by rfl, ?y9⟩) hS ?r9
    case y9 =>
      intro w_ hS_
      go_simp
      try with_reducible rfl
    simp only [Act.put, List.getElem_toArray, List.getElem_cons_succ, List.getElem_cons_zero, List.setIfInBounds_toArray, List.set_cons_succ, List.set_cons_zero]
    refine wpAnyH_take (i := 9) (v := ?v10) rfl (by kernel_rfl) (by kernel_rfl) (by kernel_rfl) (fun _ _ _ h => h) (Or.inl ⟨by rfl, ?y10⟩) hS ?r10
    case y10 =>
      intro w_ hS_
      go_simp
      try with_reducible rfl
    simp only [Act.put, List.getElem_toArray, List.getElem_cons_succ, List.getElem_cons_zero, List.setIfInBounds_toArray, List.set_cons_succ, List.set_cons_zero]
    refine wpAnyH_take (i := 10) (v := ?v11) rfl (by kernel_rfl) (by kernel_rfl) (by kernel_rfl) (fun _ _ _ h => h) (Or.inl ⟨by rfl, ?y11⟩) hS ?r11
    case y11 =>
      intro w_ hS_
      go_simp
      try with_reducible rfl
    simp only [Act.put, List.getElem_toArray, List.getElem_cons_succ, List.getElem_cons_zero, List.setIfInBounds_toArray, List.set_cons_succ, List.set_cons_zero]
    refine wpAnyH_take (i := 11) (v := .bool false) rfl (by kernel_rfl) (by kernel_rfl) (by kernel_rfl) (fun _ _ _ h => h) (Or.inl ⟨by rfl, ?y12⟩) hS ?r12
    case y12 =>
      intro w_ hS_
      go_simp
      try exact d3
    simp only [Act.put, List.getElem_toArray, List.getElem_cons_succ, List.getElem_cons_zero, List.setIfInBounds_toArray, List.set_cons_succ, List.set_cons_zero]
    refine wpAnyH_take (i := 12) (v := ?v13) rfl (by kernel_rfl) (by kernel_rfl) (by kernel_rfl) (fun _ _ _ h => h) (Or.inl ⟨by rfl, ?y13⟩) hS ?r13
    case y13 =>
      intro w_ hS_
      go_simp
      try with_reducible rfl
    simp only [Act.put, List.getElem_toArray, List.getElem_cons_succ, List.getElem_cons_zero, List.setIfInBounds_toArray, List.set_cons_succ, List.set_cons_zero]
    refine wpAnyH_take (i := 13) (v := ?v14) rfl (by kernel_rfl) (by kernel_rfl) (by kernel_rfl) (fun _ _ _ h => h) (Or.inl ⟨by rfl, ?y14⟩) hS ?r14
    case y14 =>
      intro w_ hS_
      go_simp
      try with_reducible rfl
    simp only [Act.put, List.getElem_toArray, List.getElem_cons_succ, List.getElem_cons_zero, List.setIfInBounds_toArray, List.set_cons_succ, List.set_cons_zero]
    refine wpAnyH_take (i := 14) (v := ?v15) rfl (by kernel_rfl) (by kernel_rfl) (by kernel_rfl) (fun _ _ _ h => h) (Or.inl ⟨by rfl, ?y15⟩) hS ?r15
    case y15 =>
      intro w_ hS_
      go_simp
      try with_reducible rfl
    simp only [Act.put, List.getElem_toArray, List.getElem_cons_succ, List.getElem_cons_zero, List.setIfInBounds_toArray, List.set_cons_succ, List.set_cons_zero]
    refine wpAnyH_take (i := 15) (v := ?v16) rfl (by kernel_rfl) (by kernel_rfl) (by kernel_rfl) (fun _ _ _ h => h) (Or.inl ⟨by rfl, ?y16⟩) hS ?r16
    case y16 =>
      intro w_ hS_
      go_simp
      try with_reducible rfl
    simp only [Act.put, List.getElem_toArray, List.getElem_cons_succ, List.getElem_cons_zero, List.setIfInBounds_toArray, List.set_cons_succ, List.set_cons_zero]
    refine wpAnyH_take (i := 16) (v := ?v17) rfl (by kernel_rfl) (by kernel_rfl) (by kernel_rfl) (fun _ _ _ h => h) (Or.inl ⟨by rfl, ?y17⟩) hS ?r17
    case y17 =>
      intro w_ hS_
      go_simp
      try with_reducible rfl
    simp only [Act.put, List.getElem_toArray, List.getElem_cons_succ, List.getElem_cons_zero, List.setIfInBounds_toArray, List.set_cons_succ, List.set_cons_zero]
    refine wpAnyH_take (i := 17) (v := ?v18) rfl (by kernel_rfl) (by kernel_rfl) (by kernel_rfl) (fun _ _ _ h => h) (Or.inl ⟨by rfl, ?y18⟩) hS ?r18
    case y18 =>
      intro w_ hS_
      go_simp
      try with_reducible rfl
    simp only [Act.put, List.getElem_toArray, List.getElem_cons_succ, List.getElem_cons_zero, List.setIfInBounds_toArray, List.set_cons_succ, List.set_cons_zero]
    refine wpAnyH_take (i := 18) (v := ?v19) rfl (by kernel_rfl) (by kernel_rfl) (by kernel_rfl) (fun _ _ _ h => h) (Or.inl ⟨by rfl, ?y19⟩) hS ?r19
    case y19 =>
      intro w_ hS_
      go_simp
      try with_reducible rfl
    simp only [Act.put, List.getElem_toArray, List.getElem_cons_succ, List.getElem_cons_zero, List.setIfInBounds_toArray, List.set_cons_succ, List.set_cons_zero]
    refine wpAnyH_one (k := 19) (fuel := 3) (by kernel_rfl) rfl (by kernel_rfl) (fun K_ hK => ?_)
    refine wp_call_ex (f := 22) (by kernel_rfl) (a_put [] n0 hv64 w1 _ (bys_nil w1)) (fun v_ w2 hX_ => ?_)
    obtain ⟨hO, hb_⟩ := hX_
    rw [List.nil_append] at hO
    replace hw := Below.after hw hb_
    replace hB := hB.keep hb_
    replace hD := hD.keep hb_
    clear hb_
    refine hK _ _ hS ?_
    simp only [Act.put, List.getElem_toArray, List.getElem_cons_succ, List.getElem_cons_zero, List.setIfInBounds_toArray, List.set_cons_succ, List.set_cons_zero]
    clear hK
    refine wpAnyH_one (k := 20) (fuel := 2) (by kernel_rfl) rfl (by kernel_rfl) (fun K_ hK => ?_)
    refine wp_call_ex (f := 12) (R := fun v_ w_ => v_ = .bool true ∧ Below w2.heap.size w2 w_) (by kernel_rfl) ((same_any (bl (en n0)) w2 _ _ hD.1 hO.bys).mono (fun e_ w_ h_ => ⟨_, h_.1, rfl, h_.2⟩)) (fun v_ w3 hX_ => ?_)
    obtain ⟨rfl, hb_⟩ := hX_
    replace hw := Below.after hw hb_
    replace hB := hB.keep hb_
    clear hb_ hO
    refine hK _ _ hS ?_
    simp only [Act.put, List.getElem_toArray, List.getElem_cons_succ, List.getElem_cons_zero, List.setIfInBounds_toArray, List.set_cons_succ, List.set_cons_zero]
    clear hK
    refine wpAnyH_take (i := 21) (v := ?v20) rfl (by kernel_rfl) (by kernel_rfl) (by kernel_rfl) (fun _ _ _ h => h) (Or.inl ⟨by rfl, ?y20⟩) hS ?r20
    case y20 =>
      intro w_ hS_
      go_simp
      try with_reducible rfl
    simp only [Act.put, List.getElem_toArray, List.getElem_cons_succ, List.getElem_cons_zero, List.setIfInBounds_toArray, List.set_cons_succ, List.set_cons_zero]
    refine wpAnyH_take (i := 22) (v := ?v21) rfl (by kernel_rfl) (by kernel_rfl) (by kernel_rfl) (fun _ _ _ h => h) (Or.inl ⟨by rfl, ?y21⟩) hS ?r21
    case y21 =>
      intro w_ hS_
      go_simp
      try with_reducible rfl
    simp only [Act.put, List.getElem_toArray, List.getElem_cons_succ, List.getElem_cons_zero, List.setIfInBounds_toArray, List.set_cons_succ, List.set_cons_zero]
    refine wpAnyH_done (by kernel_rfl) ?_ _
    refine NoPanic.normal ?_

    clear hsl hD d1 d2 d3
    go_wp2_with (fail)
    rcases der_cases bs with hdd | hdd
    · have hen := dec_enc hdd
      have hdo := hide (dfs_oks bs)
      have hdl2 := dfs_len bs hdd
      rcases sp_cases bs with hss | hss
      · skip
        have cX := a_decode bs w3 _ hB hcap
        generalize dpl (dwh bs) = dp at cX
        rw [hdd] at cX
        go_wp2_with (fail)
        refine cX.mono ?_
        rintro e_ w4 ⟨u, us, rfl, hU, hb⟩
        replace hw := Below.after hw hb
        replace hB := hB.keep hb
        clear hb cX
        have hUF := hU.fds (by omega) hdo.out
        clear hU
        have cX := a_encode (dfs (dwh bs)) w4 _ hUF
        rw [hen.1, hen.2] at cX
        go_wp2_with (fail)
        refine cX.mono ?_
        rintro e_ w5 ⟨x, rfl, hx, hb⟩
        replace hw := Below.after hw hb
        replace hB := hB.keep hb
        replace hUF := hUF.keep hb
        clear hb cX
        have cX := same_any (bl bs) w5 _ _ hx.bys hB.1
        go_wp2_with (fail)
        refine cX.mono ?_
        rintro e_ w6 ⟨rfl, hb⟩
        replace hw := Below.after hw hb
        replace hB := hB.keep hb
        replace hUF := hUF.keep hb
        replace hx := hx.keep hb
        clear hb cX
        clear hx hUF
        have cX := a_split bs w6 _ hB hcap
        generalize spa (sp bs) = sq at cX
        rw [hss.1] at cX
        go_wp2_with (fail)
        refine cX.mono ?_
        rintro e_ w7 ⟨u2, us2, rfl, hI, hb⟩
        replace hw := Below.after hw hb
        replace hB := hB.keep hb
        clear hb cX
        have hIP := hI.pcb (by have := hss.2.2.2.1; omega) hss.2.2.2.2
        clear hI
        have cX := a_join (spp (sp bs)) w7 _ hIP
        rw [hss.2.1, hss.2.2.1] at cX
        go_wp2_with (fail)
        refine cX.mono ?_
        rintro e_ w8 ⟨y, rfl, hy, hb⟩
        replace hw := Below.after hw hb
        replace hB := hB.keep hb
        replace hIP := hIP.keep hb
        clear hb cX
        have cX := same_any (bl bs) w8 _ _ hy.bys hB.1
        go_wp2_with (fail)
        refine cX.mono ?_
        rintro e_ w9 ⟨rfl, hb⟩
        replace hw := Below.after hw hb
        replace hB := hB.keep hb
        replace hIP := hIP.keep hb
        replace hy := hy.keep hb
        clear hb cX
        clear hy hIP
        have hF1 : Fds (w9.alloc (.cells #[.int .i64 1, .int .i64 0, .int .u64 150, .slice none 0 0] 38)) (.slice (some ⟨w9.heap.size, 0, none⟩) 1 1) [f150] := fds_one w9 f150 (.slice none 0 0) (bys_nil w9) f150_ok
        replace hw := Below.after hw (show Below w9.heap.size w9 (w9.alloc (.cells #[.int .i64 1, .int .i64 0, .int .u64 150, .slice none 0 0] 38)) from (Below.refl _ _).alloc (Nat.le_refl _) _)
        have cX := a_encode [f150] _ _ hF1
        rw [f150_er, f150_out] at cX
        clear hF1 hB
        go_wp2_with (fail)
        refine cX.mono ?_
        rintro e_ wE ⟨x1, rfl, hx1, hb⟩
        replace hw := Below.after hw hb
        clear cX hb
        have hb3 : Below wE.heap.size wE (wE.alloc (.cells #[.int .u8 8, .int .u8 150, .int .u8 1] 5)) := (Below.refl _ _).alloc (Nat.le_refl _) _
        have hl3 : Bys (wE.alloc (.cells #[.int .u8 8, .int .u8 150, .int .u8 1] 5)) (.slice (some ⟨wE.heap.size, 0, none⟩) 3 3) (bl [8#8, 150#8, 1#8]) := Bys.of_row (l := bl [8#8, 150#8, 1#8]) (hp1_0 wE (.cells #[.int .u8 8, .int .u8 150, .int .u8 1] 5)) (by decide) (bl_bnd _) 3
        have cX := same_any (bl [8#8, 150#8, 1#8]) _ _ _ (hx1.keep hb3).bys hl3
        replace hw := Below.after hw hb3
        clear hx1 hl3 hb3
        go_wp2_with (fail)
        refine cX.mono ?_
        rintro e_ wF ⟨rfl, hb⟩
        replace hw := Below.after hw hb
        clear cX hb
        go_wp2_with (fail)
        go_ret
        exact ⟨rfl, hw⟩
      · skip
        have cX := a_decode bs w3 _ hB hcap
        generalize dpl (dwh bs) = dp at cX
        rw [hdd] at cX
        go_wp2_with (fail)
        refine cX.mono ?_
        rintro e_ w4 ⟨u, us, rfl, hU, hb⟩
        replace hw := Below.after hw hb
        replace hB := hB.keep hb
        clear hb cX
        have hUF := hU.fds (by omega) hdo.out
        clear hU
        have cX := a_encode (dfs (dwh bs)) w4 _ hUF
        rw [hen.1, hen.2] at cX
        go_wp2_with (fail)
        refine cX.mono ?_
        rintro e_ w5 ⟨x, rfl, hx, hb⟩
        replace hw := Below.after hw hb
        replace hB := hB.keep hb
        replace hUF := hUF.keep hb
        clear hb cX
        have cX := same_any (bl bs) w5 _ _ hx.bys hB.1
        go_wp2_with (fail)
        refine cX.mono ?_
        rintro e_ w6 ⟨rfl, hb⟩
        replace hw := Below.after hw hb
        replace hB := hB.keep hb
        replace hUF := hUF.keep hb
        replace hx := hx.keep hb
        clear hb cX
        clear hx hUF
        have cX := a_split bs w6 _ hB hcap
        generalize spa (sp bs) = sq at cX
        generalize spe (sp bs) = se at cX hss
        go_wp2_with (fail)
        refine cX.mono ?_
        rintro e_ w7 ⟨u2, us2, rfl, hI, hb⟩
        replace hw := Below.after hw hb
        replace hB := hB.keep hb
        clear hb cX
        clear hI
        have hF1 : Fds (w7.alloc (.cells #[.int .i64 1, .int .i64 0, .int .u64 150, .slice none 0 0] 38)) (.slice (some ⟨w7.heap.size, 0, none⟩) 1 1) [f150] := fds_one w7 f150 (.slice none 0 0) (bys_nil w7) f150_ok
        replace hw := Below.after hw (show Below w7.heap.size w7 (w7.alloc (.cells #[.int .i64 1, .int .i64 0, .int .u64 150, .slice none 0 0] 38)) from (Below.refl _ _).alloc (Nat.le_refl _) _)
        have cX := a_encode [f150] _ _ hF1
        rw [f150_er, f150_out] at cX
        clear hF1 hB
        go_wp2_with (fail)
        refine cX.mono ?_
        rintro e_ wE ⟨x1, rfl, hx1, hb⟩
        replace hw := Below.after hw hb
        clear cX hb
        have hb3 : Below wE.heap.size wE (wE.alloc (.cells #[.int .u8 8, .int .u8 150, .int .u8 1] 5)) := (Below.refl _ _).alloc (Nat.le_refl _) _
        have hl3 : Bys (wE.alloc (.cells #[.int .u8 8, .int .u8 150, .int .u8 1] 5)) (.slice (some ⟨wE.heap.size, 0, none⟩) 3 3) (bl [8#8, 150#8, 1#8]) := Bys.of_row (l := bl [8#8, 150#8, 1#8]) (hp1_0 wE (.cells #[.int .u8 8, .int .u8 150, .int .u8 1] 5)) (by decide) (bl_bnd _) 3
        have cX := same_any (bl [8#8, 150#8, 1#8]) _ _ _ (hx1.keep hb3).bys hl3
        replace hw := Below.after hw hb3
        clear hx1 hl3 hb3
        go_wp2_with (fail)
        refine cX.mono ?_
        rintro e_ wF ⟨rfl, hb⟩
        replace hw := Below.after hw hb
        clear cX hb
        go_wp2_with (fail)
        go_ret
        exact ⟨rfl, hw⟩
    · skip
      rcases sp_cases bs with hss | hss
      · skip
        have cX := a_decode bs w3 _ hB hcap
        generalize dpl (dwh bs) = dp at cX
        generalize der (dwh bs) = de at cX hdd
        go_wp2_with (fail)
        refine cX.mono ?_
        rintro e_ w4 ⟨u, us, rfl, hU, hb⟩
        replace hw := Below.after hw hb
        replace hB := hB.keep hb
        clear hb cX
        clear hU
        have cX := a_split bs w4 _ hB hcap
        generalize spa (sp bs) = sq at cX
        rw [hss.1] at cX
        go_wp2_with (fail)
        refine cX.mono ?_
        rintro e_ w5 ⟨u2, us2, rfl, hI, hb⟩
        replace hw := Below.after hw hb
        replace hB := hB.keep hb
        clear hb cX
        have hIP := hI.pcb (by have := hss.2.2.2.1; omega) hss.2.2.2.2
        clear hI
        have cX := a_join (spp (sp bs)) w5 _ hIP
        rw [hss.2.1, hss.2.2.1] at cX
        go_wp2_with (fail)
        refine cX.mono ?_
        rintro e_ w6 ⟨y, rfl, hy, hb⟩
        replace hw := Below.after hw hb
        replace hB := hB.keep hb
        replace hIP := hIP.keep hb
        clear hb cX
        have cX := same_any (bl bs) w6 _ _ hy.bys hB.1
        go_wp2_with (fail)
        refine cX.mono ?_
        rintro e_ w7 ⟨rfl, hb⟩
        replace hw := Below.after hw hb
        replace hB := hB.keep hb
        replace hIP := hIP.keep hb
        replace hy := hy.keep hb
        clear hb cX
        clear hy hIP
        have hF1 : Fds (w7.alloc (.cells #[.int .i64 1, .int .i64 0, .int .u64 150, .slice none 0 0] 38)) (.slice (some ⟨w7.heap.size, 0, none⟩) 1 1) [f150] := fds_one w7 f150 (.slice none 0 0) (bys_nil w7) f150_ok
        replace hw := Below.after hw (show Below w7.heap.size w7 (w7.alloc (.cells #[.int .i64 1, .int .i64 0, .int .u64 150, .slice none 0 0] 38)) from (Below.refl _ _).alloc (Nat.le_refl _) _)
        have cX := a_encode [f150] _ _ hF1
        rw [f150_er, f150_out] at cX
        clear hF1 hB
        go_wp2_with (fail)
        refine cX.mono ?_
        rintro e_ wE ⟨x1, rfl, hx1, hb⟩
        replace hw := Below.after hw hb
        clear cX hb
        have hb3 : Below wE.heap.size wE (wE.alloc (.cells #[.int .u8 8, .int .u8 150, .int .u8 1] 5)) := (Below.refl _ _).alloc (Nat.le_refl _) _
        have hl3 : Bys (wE.alloc (.cells #[.int .u8 8, .int .u8 150, .int .u8 1] 5)) (.slice (some ⟨wE.heap.size, 0, none⟩) 3 3) (bl [8#8, 150#8, 1#8]) := Bys.of_row (l := bl [8#8, 150#8, 1#8]) (hp1_0 wE (.cells #[.int .u8 8, .int .u8 150, .int .u8 1] 5)) (by decide) (bl_bnd _) 3
        have cX := same_any (bl [8#8, 150#8, 1#8]) _ _ _ (hx1.keep hb3).bys hl3
        replace hw := Below.after hw hb3
        clear hx1 hl3 hb3
        go_wp2_with (fail)
        refine cX.mono ?_
        rintro e_ wF ⟨rfl, hb⟩
        replace hw := Below.after hw hb
        clear cX hb
        go_wp2_with (fail)
        go_ret
        exact ⟨rfl, hw⟩
      · skip
        have cX := a_decode bs w3 _ hB hcap
        generalize dpl (dwh bs) = dp at cX
        generalize der (dwh bs) = de at cX hdd
        go_wp2_with (fail)
        refine cX.mono ?_
        rintro e_ w4 ⟨u, us, rfl, hU, hb⟩
        replace hw := Below.after hw hb
        replace hB := hB.keep hb
        clear hb cX
        clear hU
        have cX := a_split bs w4 _ hB hcap
        generalize spa (sp bs) = sq at cX
        generalize spe (sp bs) = se at cX hss
        go_wp2_with (fail)
        refine cX.mono ?_
        rintro e_ w5 ⟨u2, us2, rfl, hI, hb⟩
        replace hw := Below.after hw hb
        replace hB := hB.keep hb
        clear hb cX
        clear hI
        have hF1 : Fds (w5.alloc (.cells #[.int .i64 1, .int .i64 0, .int .u64 150, .slice none 0 0] 38)) (.slice (some ⟨w5.heap.size, 0, none⟩) 1 1) [f150] := fds_one w5 f150 (.slice none 0 0) (bys_nil w5) f150_ok
        replace hw := Below.after hw (show Below w5.heap.size w5 (w5.alloc (.cells #[.int .i64 1, .int .i64 0, .int .u64 150, .slice none 0 0] 38)) from (Below.refl _ _).alloc (Nat.le_refl _) _)
        have cX := a_encode [f150] _ _ hF1
        rw [f150_er, f150_out] at cX
        clear hF1 hB
        go_wp2_with (fail)
        refine cX.mono ?_
        rintro e_ wE ⟨x1, rfl, hx1, hb⟩
        replace hw := Below.after hw hb
        clear cX hb
        have hb3 : Below wE.heap.size wE (wE.alloc (.cells #[.int .u8 8, .int .u8 150, .int .u8 1] 5)) := (Below.refl _ _).alloc (Nat.le_refl _) _
        have hl3 : Bys (wE.alloc (.cells #[.int .u8 8, .int .u8 150, .int .u8 1] 5)) (.slice (some ⟨wE.heap.size, 0, none⟩) 3 3) (bl [8#8, 150#8, 1#8]) := Bys.of_row (l := bl [8#8, 150#8, 1#8]) (hp1_0 wE (.cells #[.int .u8 8, .int .u8 150, .int .u8 1] 5)) (by decide) (bl_bnd _) 3
        have cX := same_any (bl [8#8, 150#8, 1#8]) _ _ _ (hx1.keep hb3).bys hl3
        replace hw := Below.after hw hb3
        clear hx1 hl3 hb3
        go_wp2_with (fail)
        refine cX.mono ?_
        rintro e_ wF ⟨rfl, hb⟩
        replace hw := Below.after hw hb
        clear cX hb
        go_wp2_with (fail)
        go_ret
        exact ⟨rfl, hw⟩
  · rw [hn] at cX
    clear hn
    go_wp2_with (fail)
    refine cX.mono ?_
    rintro e_ w3 ⟨rfl, hw⟩
    replace hB := hB.keep hw
    clear cX
    rcases der_cases bs with hdd | hdd
    · have hen := dec_enc hdd
      have hdo := hide (dfs_oks bs)
      have hdl2 := dfs_len bs hdd
      rcases sp_cases bs with hss | hss
      · skip
        have cX := a_decode bs w3 _ hB hcap
        generalize dpl (dwh bs) = dp at cX
        rw [hdd] at cX
        go_wp2_with (fail)
        refine cX.mono ?_
        rintro e_ w4 ⟨u, us, rfl, hU, hb⟩
        replace hw := Below.after hw hb
        replace hB := hB.keep hb
        clear hb cX
        have hUF := hU.fds (by omega) hdo.out
        clear hU
        have cX := a_encode (dfs (dwh bs)) w4 _ hUF
        rw [hen.1, hen.2] at cX
        go_wp2_with (fail)
        refine cX.mono ?_
        rintro e_ w5 ⟨x, rfl, hx, hb⟩
        replace hw := Below.after hw hb
        replace hB := hB.keep hb
        replace hUF := hUF.keep hb
        clear hb cX
        have cX := same_any (bl bs) w5 _ _ hx.bys hB.1
        go_wp2_with (fail)
        refine cX.mono ?_
        rintro e_ w6 ⟨rfl, hb⟩
        replace hw := Below.after hw hb
        replace hB := hB.keep hb
        replace hUF := hUF.keep hb
        replace hx := hx.keep hb
        clear hb cX
        clear hx hUF
        have cX := a_split bs w6 _ hB hcap
        generalize spa (sp bs) = sq at cX
        rw [hss.1] at cX
        go_wp2_with (fail)
        refine cX.mono ?_
        rintro e_ w7 ⟨u2, us2, rfl, hI, hb⟩
        replace hw := Below.after hw hb
        replace hB := hB.keep hb
        clear hb cX
        have hIP := hI.pcb (by have := hss.2.2.2.1; omega) hss.2.2.2.2
        clear hI
        have cX := a_join (spp (sp bs)) w7 _ hIP
        rw [hss.2.1, hss.2.2.1] at cX
        go_wp2_with (fail)
        refine cX.mono ?_
        rintro e_ w8 ⟨y, rfl, hy, hb⟩
        replace hw := Below.after hw hb
        replace hB := hB.keep hb
        replace hIP := hIP.keep hb
        clear hb cX
        have cX := same_any (bl bs) w8 _ _ hy.bys hB.1
        go_wp2_with (fail)
        refine cX.mono ?_
        rintro e_ w9 ⟨rfl, hb⟩
        replace hw := Below.after hw hb
        replace hB := hB.keep hb
        replace hIP := hIP.keep hb
        replace hy := hy.keep hb
        clear hb cX
        clear hy hIP
        have hF1 : Fds (w9.alloc (.cells #[.int .i64 1, .int .i64 0, .int .u64 150, .slice none 0 0] 38)) (.slice (some ⟨w9.heap.size, 0, none⟩) 1 1) [f150] := fds_one w9 f150 (.slice none 0 0) (bys_nil w9) f150_ok
        replace hw := Below.after hw (show Below w9.heap.size w9 (w9.alloc (.cells #[.int .i64 1, .int .i64 0, .int .u64 150, .slice none 0 0] 38)) from (Below.refl _ _).alloc (Nat.le_refl _) _)
        have cX := a_encode [f150] _ _ hF1
        rw [f150_er, f150_out] at cX
        clear hF1 hB
        go_wp2_with (fail)
        refine cX.mono ?_
        rintro e_ wE ⟨x1, rfl, hx1, hb⟩
        replace hw := Below.after hw hb
        clear cX hb
        have hb3 : Below wE.heap.size wE (wE.alloc (.cells #[.int .u8 8, .int .u8 150, .int .u8 1] 5)) := (Below.refl _ _).alloc (Nat.le_refl _) _
        have hl3 : Bys (wE.alloc (.cells #[.int .u8 8, .int .u8 150, .int .u8 1] 5)) (.slice (some ⟨wE.heap.size, 0, none⟩) 3 3) (bl [8#8, 150#8, 1#8]) := Bys.of_row (l := bl [8#8, 150#8, 1#8]) (hp1_0 wE (.cells #[.int .u8 8, .int .u8 150, .int .u8 1] 5)) (by decide) (bl_bnd _) 3
        have cX := same_any (bl [8#8, 150#8, 1#8]) _ _ _ (hx1.keep hb3).bys hl3
        replace hw := Below.after hw hb3
        clear hx1 hl3 hb3
        go_wp2_with (fail)
        refine cX.mono ?_
        rintro e_ wF ⟨rfl, hb⟩
        replace hw := Below.after hw hb
        clear cX hb
        go_wp2_with (fail)
        go_ret
        exact ⟨rfl, hw⟩
      · skip
        have cX := a_decode bs w3 _ hB hcap
        generalize dpl (dwh bs) = dp at cX
        rw [hdd] at cX
        go_wp2_with (fail)
        refine cX.mono ?_
        rintro e_ w4 ⟨u, us, rfl, hU, hb⟩
        replace hw := Below.after hw hb
        replace hB := hB.keep hb
        clear hb cX
        have hUF := hU.fds (by omega) hdo.out
        clear hU
        have cX := a_encode (dfs (dwh bs)) w4 _ hUF
        rw [hen.1, hen.2] at cX
        go_wp2_with (fail)
        refine cX.mono ?_
        rintro e_ w5 ⟨x, rfl, hx, hb⟩
        replace hw := Below.after hw hb
        replace hB := hB.keep hb
        replace hUF := hUF.keep hb
        clear hb cX
        have cX := same_any (bl bs) w5 _ _ hx.bys hB.1
        go_wp2_with (fail)
        refine cX.mono ?_
        rintro e_ w6 ⟨rfl, hb⟩
        replace hw := Below.after hw hb
        replace hB := hB.keep hb
        replace hUF := hUF.keep hb
        replace hx := hx.keep hb
        clear hb cX
        clear hx hUF
        have cX := a_split bs w6 _ hB hcap
        generalize spa (sp bs) = sq at cX
        generalize spe (sp bs) = se at cX hss
        go_wp2_with (fail)
        refine cX.mono ?_
        rintro e_ w7 ⟨u2, us2, rfl, hI, hb⟩
        replace hw := Below.after hw hb
        replace hB := hB.keep hb
        clear hb cX
        clear hI
        have hF1 : Fds (w7.alloc (.cells #[.int .i64 1, .int .i64 0, .int .u64 150, .slice none 0 0] 38)) (.slice (some ⟨w7.heap.size, 0, none⟩) 1 1) [f150] := fds_one w7 f150 (.slice none 0 0) (bys_nil w7) f150_ok
        replace hw := Below.after hw (show Below w7.heap.size w7 (w7.alloc (.cells #[.int .i64 1, .int .i64 0, .int .u64 150, .slice none 0 0] 38)) from (Below.refl _ _).alloc (Nat.le_refl _) _)
        have cX := a_encode [f150] _ _ hF1
        rw [f150_er, f150_out] at cX
        clear hF1 hB
        go_wp2_with (fail)
        refine cX.mono ?_
        rintro e_ wE ⟨x1, rfl, hx1, hb⟩
        replace hw := Below.after hw hb
        clear cX hb
        have hb3 : Below wE.heap.size wE (wE.alloc (.cells #[.int .u8 8, .int .u8 150, .int .u8 1] 5)) := (Below.refl _ _).alloc (Nat.le_refl _) _
        have hl3 : Bys (wE.alloc (.cells #[.int .u8 8, .int .u8 150, .int .u8 1] 5)) (.slice (some ⟨wE.heap.size, 0, none⟩) 3 3) (bl [8#8, 150#8, 1#8]) := Bys.of_row (l := bl [8#8, 150#8, 1#8]) (hp1_0 wE (.cells #[.int .u8 8, .int .u8 150, .int .u8 1] 5)) (by decide) (bl_bnd _) 3
        have cX := same_any (bl [8#8, 150#8, 1#8]) _ _ _ (hx1.keep hb3).bys hl3
        replace hw := Below.after hw hb3
        clear hx1 hl3 hb3
        go_wp2_with (fail)
        refine cX.mono ?_
        rintro e_ wF ⟨rfl, hb⟩
        replace hw := Below.after hw hb
        clear cX hb
        go_wp2_with (fail)
        go_ret
        exact ⟨rfl, hw⟩
    · skip
      rcases sp_cases bs with hss | hss
      · skip
        have cX := a_decode bs w3 _ hB hcap
        generalize dpl (dwh bs) = dp at cX
        generalize der (dwh bs) = de at cX hdd
        go_wp2_with (fail)
        refine cX.mono ?_
        rintro e_ w4 ⟨u, us, rfl, hU, hb⟩
        replace hw := Below.after hw hb
        replace hB := hB.keep hb
        clear hb cX
        clear hU
        have cX := a_split bs w4 _ hB hcap
        generalize spa (sp bs) = sq at cX
        rw [hss.1] at cX
        go_wp2_with (fail)
        refine cX.mono ?_
        rintro e_ w5 ⟨u2, us2, rfl, hI, hb⟩
        replace hw := Below.after hw hb
        replace hB := hB.keep hb
        clear hb cX
        have hIP := hI.pcb (by have := hss.2.2.2.1; omega) hss.2.2.2.2
        clear hI
        have cX := a_join (spp (sp bs)) w5 _ hIP
        rw [hss.2.1, hss.2.2.1] at cX
        go_wp2_with (fail)
        refine cX.mono ?_
        rintro e_ w6 ⟨y, rfl, hy, hb⟩
        replace hw := Below.after hw hb
        replace hB := hB.keep hb
        replace hIP := hIP.keep hb
        clear hb cX
        have cX := same_any (bl bs) w6 _ _ hy.bys hB.1
        go_wp2_with (fail)
        refine cX.mono ?_
        rintro e_ w7 ⟨rfl, hb⟩
        replace hw := Below.after hw hb
        replace hB := hB.keep hb
        replace hIP := hIP.keep hb
        replace hy := hy.keep hb
        clear hb cX
        clear hy hIP
        have hF1 : Fds (w7.alloc (.cells #[.int .i64 1, .int .i64 0, .int .u64 150, .slice none 0 0] 38)) (.slice (some ⟨w7.heap.size, 0, none⟩) 1 1) [f150] := fds_one w7 f150 (.slice none 0 0) (bys_nil w7) f150_ok
        replace hw := Below.after hw (show Below w7.heap.size w7 (w7.alloc (.cells #[.int .i64 1, .int .i64 0, .int .u64 150, .slice none 0 0] 38)) from (Below.refl _ _).alloc (Nat.le_refl _) _)
        have cX := a_encode [f150] _ _ hF1
        rw [f150_er, f150_out] at cX
        clear hF1 hB
        go_wp2_with (fail)
        refine cX.mono ?_
        rintro e_ wE ⟨x1, rfl, hx1, hb⟩
        replace hw := Below.after hw hb
        clear cX hb
        have hb3 : Below wE.heap.size wE (wE.alloc (.cells #[.int .u8 8, .int .u8 150, .int .u8 1] 5)) := (Below.refl _ _).alloc (Nat.le_refl _) _
        have hl3 : Bys (wE.alloc (.cells #[.int .u8 8, .int .u8 150, .int .u8 1] 5)) (.slice (some ⟨wE.heap.size, 0, none⟩) 3 3) (bl [8#8, 150#8, 1#8]) := Bys.of_row (l := bl [8#8, 150#8, 1#8]) (hp1_0 wE (.cells #[.int .u8 8, .int .u8 150, .int .u8 1] 5)) (by decide) (bl_bnd _) 3
        have cX := same_any (bl [8#8, 150#8, 1#8]) _ _ _ (hx1.keep hb3).bys hl3
        replace hw := Below.after hw hb3
        clear hx1 hl3 hb3
        go_wp2_with (fail)
        refine cX.mono ?_
        rintro e_ wF ⟨rfl, hb⟩
        replace hw := Below.after hw hb
        clear cX hb
        go_wp2_with (fail)
        go_ret
        exact ⟨rfl, hw⟩
      · skip
        have cX := a_decode bs w3 _ hB hcap
        generalize dpl (dwh bs) = dp at cX
        generalize der (dwh bs) = de at cX hdd
        go_wp2_with (fail)
        refine cX.mono ?_
        rintro e_ w4 ⟨u, us, rfl, hU, hb⟩
        replace hw := Below.after hw hb
        replace hB := hB.keep hb
        clear hb cX
        clear hU
        have cX := a_split bs w4 _ hB hcap
        generalize spa (sp bs) = sq at cX
        generalize spe (sp bs) = se at cX hss
        go_wp2_with (fail)
        refine cX.mono ?_
        rintro e_ w5 ⟨u2, us2, rfl, hI, hb⟩
        replace hw := Below.after hw hb
        replace hB := hB.keep hb
        clear hb cX
        clear hI
        have hF1 : Fds (w5.alloc (.cells #[.int .i64 1, .int .i64 0, .int .u64 150, .slice none 0 0] 38)) (.slice (some ⟨w5.heap.size, 0, none⟩) 1 1) [f150] := fds_one w5 f150 (.slice none 0 0) (bys_nil w5) f150_ok
        replace hw := Below.after hw (show Below w5.heap.size w5 (w5.alloc (.cells #[.int .i64 1, .int .i64 0, .int .u64 150, .slice none 0 0] 38)) from (Below.refl _ _).alloc (Nat.le_refl _) _)
        have cX := a_encode [f150] _ _ hF1
        rw [f150_er, f150_out] at cX
        clear hF1 hB
        go_wp2_with (fail)
        refine cX.mono ?_
        rintro e_ wE ⟨x1, rfl, hx1, hb⟩
        replace hw := Below.after hw hb
        clear cX hb
        have hb3 : Below wE.heap.size wE (wE.alloc (.cells #[.int .u8 8, .int .u8 150, .int .u8 1] 5)) := (Below.refl _ _).alloc (Nat.le_refl _) _
        have hl3 : Bys (wE.alloc (.cells #[.int .u8 8, .int .u8 150, .int .u8 1] 5)) (.slice (some ⟨wE.heap.size, 0, none⟩) 3 3) (bl [8#8, 150#8, 1#8]) := Bys.of_row (l := bl [8#8, 150#8, 1#8]) (hp1_0 wE (.cells #[.int .u8 8, .int .u8 150, .int .u8 1] 5)) (by decide) (bl_bnd _) 3
        have cX := same_any (bl [8#8, 150#8, 1#8]) _ _ _ (hx1.keep hb3).bys hl3
        replace hw := Below.after hw hb3
        clear hx1 hl3 hb3
        go_wp2_with (fail)
        refine cX.mono ?_
        rintro e_ wF ⟨rfl, hb⟩
        replace hw := Below.after hw hb
        clear cX hb
        go_wp2_with (fail)
        go_ret
        exact ⟨rfl, hw⟩
end Go.Proofs.Ytohjcdmhejmnfaa

