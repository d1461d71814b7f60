import Derived.Test.YtgfeacnhdlgpoaaDoorProg
import Derived.WalkKit
import Derived.WalkSpells
import Derived.WalkLawsBesides
import Derived.Lib.QuietBelow
import Derived.BigQuiet
import Derived.OrdersHeld
import Derived.OwnWalk
import Derived.Deep.RegionHeld3
import Derived.Deep.Cut
import Derived.Deep.CutRange
import Derived.Test.YtgfeacnhdlgpoaaDoorTrk
namespace Go.Proofs.YtgfeacnhdlgpoaaDoor
set_option maxRecDepth 100000
open Go Go.RowKit Go.Sort
attribute [local go_sem] setCell_drewN alloc_drewN
theorem mtx_len (H : List Int → List Int) : ∀ (n i : Nat) (x : List Int) (p : List (List Int)), (mtx H n i x p).length = lng n i := by
  intro n
  induction n using Nat.strongRecOn with
  | ind n ih =>
    intro i x p
    by_cases h : n < 2
    · rw [mtx_one H h, lng_one h]; rfl
    · have a := ct_lt h
      have b := ct_pos n
      by_cases hi : i < ctN n
      · rw [mtx_lo H h hi, lng_lo h hi, List.length_append, ih _ a]; simp; omega
      · rw [mtx_hi H h hi, lng_hi h hi, List.length_append, ih (n - ctN n) (by omega)]; simp; omega
theorem Ky.mde {n i : Nat} {x : List Int} {p : List (List Int)} (hx : Ky x) : Ky (mde sumL n i x p) := by
  by_cases h : n < 2
  · rw [mde_one sumL h]; exact hx
  · by_cases hi : i < ctN n
    · rw [mde_lo sumL h hi]; exact Ky.nd _ _
    · rw [mde_hi sumL h hi]; exact Ky.nd _ _
theorem r_textD {w W : World} (hW : Below w.heap.size w W) (a b : List Int) (ha : Ky a) (hb : Ky b) : Calls Tryd.prog 43 #[.agg (irow .u8 a), .agg (irow .u8 b)] W fun e w' => ∃ v, e = .returned v ∧ OwnI w' w.heap.size v (1 :: (a ++ b)) ∧ Below W.heap.size W w' :=
  (r_Text a b ha.1 hb.1 ha.2 hb.2 W).mono fun _ _ ⟨v, h1, h2, h3⟩ => ⟨v, h1, h2.down hW.size, h3⟩
theorem r_Made : ∀ (n i : Nat) (x : List Int) (p : List (List Int)) (w : World) (v : Value), 1 ≤ n → n ≤ 65536 → i < n → Ky x → p.length = lng n i → Ksl w v p → Calls Tryd.prog 36 #[.int .i64 (n : Int), .int .i64 (i : Int), .agg (irow .u8 x), v] w fun e w' => ∃ v, e = .returned v ∧ ∃ vt, v = .tuple #[.agg (irow .u8 (mde sumL n i x p)), vt] ∧ OwnT w' w.heap.size vt (mtx sumL n i x p) ∧ Below w.heap.size w w' := by
  intro n
  induction n using Nat.strongRecOn with
  | ind n ih =>
    intro i x p w v h1 hn hi hx hl hP
    have hle := hP.le
    by_cases h2 : n < 2
    · obtain rfl : n = 1 := by omega
      rw [mde_one sumL h2, mtx_one sumL h2]
      exact r_made1 hx.1 w _ v
    · have a := ct_lt h2
      have b := ct_pos n
      have hp : ¬ p.length = 0 := by
        by_cases hk : i < ctN n
        · rw [lng_lo h2 hk] at hl; omega
        · rw [lng_hi h2 hk] at hl; omega
      obtain ⟨g, off, cs, t, fr, m, cap, hm, rfl, hc, hg, hE, kE, hD⟩ := hP.last hp
      have hd : p.dropLast.length = m := by rw [List.length_dropLast]; omega
      by_cases hk : i < ctN n
      · rw [mde_lo sumL h2 hk, mtx_lo sumL h2 hk]
        rw [lng_lo h2 hk] at hl
        exact r_madelo hx.1 (Ky.mde hx).1 kE.1 (Ky.nd _ _).1 (by rw [mtx_len]; exact Nat.le_trans (lng_lt _ _) (by omega)) w n (ctN n) i m (by omega) (by omega) a hk hi (by omega) g off cap cs t fr hg hc hE (r_cut _ h2 (by omega)) (fun W hW => ih _ a _ _ _ _ _ b (by omega) hk hx (by omega) (hD W hW)) (fun W hW => r_Node _ _ (Ky.mde hx).1 kE.1 (Ky.mde hx).2 kE.2 W) (fun W hW => r_textD hW _ _ (Ky.mde hx) kE)
      · rw [mde_hi sumL h2 hk, mtx_hi sumL h2 hk]
        rw [lng_hi h2 hk] at hl
        have e1 : (n : Int) - (ctN n : Int) = ((n - ctN n : Nat) : Int) := by omega
        have e2 : (i : Int) - (ctN n : Int) = ((i - ctN n : Nat) : Int) := by omega
        exact r_madehi hx.1 (Ky.mde hx).1 kE.1 (Ky.nd _ _).1 (by rw [mtx_len]; exact Nat.le_trans (lng_lt _ _) (by omega)) w n (ctN n) i m (by omega) (by omega) a hk hi (by omega) g off cap cs t fr hg hc hE (r_cut _ h2 (by omega)) (fun W hW => by rw [e1, e2]; exact ih (n - ctN n) (by omega) _ _ _ _ _ (by omega) (by omega) (by omega) hx (by omega) (hD W hW)) (fun W hW => r_Node _ _ kE.1 (Ky.mde hx).1 kE.2 (Ky.mde hx).2 W) (fun W hW => r_textD hW _ _ kE (Ky.mde hx))
set_option maxRecDepth 100000 in
set_option maxHeartbeats 8000000 in
theorem r_Incl_bad {r x : List Int} (_hr : r.length = 32) (_hx : x.length = 32) (w : World) (n i : Int) (v : Value) (hn : n < 1 ∨ (¬ n < 1 ∧ 65536 < n) ∨ (¬ n < 1 ∧ ¬ 65536 < n ∧ i < 0) ∨ (¬ n < 1 ∧ ¬ 65536 < n ∧ ¬ i < 0 ∧ n ≤ i)) : Calls Tryd.prog 30 #[.agg (irow .u8 r), .int .i64 n, .int .i64 i, .agg (irow .u8 x), v] w fun e w' => e = .returned (.int .i64 210) ∧ Below w.heap.size w w' := by
  have rp0 := hp2_0 w (.cells (irow .u8 r) 24) (.cells (irow .u8 x) 24)
  have rp1 := hp2_1 w (.cells (irow .u8 r) 24) (.cells (irow .u8 x) 24)
  have hw : Below w.heap.size w ((w.alloc (.cells (irow .u8 r) 24)).alloc (.cells (irow .u8 x) 24)) := (((Below.refl _ _).alloc (Nat.le_refl _) _).alloc (by simp) _)
  go_enter Tryd.func30, Tryd.ntmps30
  iterate 9 go_step
  generalize ((w.alloc (.cells (irow .u8 r) 24)).alloc (.cells (irow .u8 x) 24)) = w0 at *
  rcases hn with h | ⟨h, h1⟩ | ⟨h, h0, h1⟩ | ⟨h, h0, h1, h2⟩
  · skip
    have d0 : decide (n < 1) = true := by simp <;> omega
    go_wp2_with (fail)
    go_ret
    exact ⟨rfl, hw⟩
  · skip
    have d0 : decide (n < 1) = false := by simp <;> omega
    have d1 : decide (n > 65536) = true := by simp <;> omega
    go_wp2_with (fail)
    go_ret
    exact ⟨rfl, hw⟩
  · skip
    have d0 : decide (n < 1) = false := by simp <;> omega
    have d1 : decide (n > 65536) = false := by simp <;> omega
    have d2 : decide (i < 0) = true := by simp <;> omega
    go_wp2_with (fail)
    go_ret
    exact ⟨rfl, hw⟩
  · skip
    have d0 : decide (n < 1) = false := by simp <;> omega
    have d1 : decide (n > 65536) = false := by simp <;> omega
    have d2 : decide (i < 0) = false := by simp <;> omega
    have d3 : decide (i ≥ n) = true := by simp <;> omega
    go_wp2_with (fail)
    go_ret
    exact ⟨rfl, hw⟩
set_option maxRecDepth 100000 in
set_option maxHeartbeats 8000000 in
theorem r_incl_no {r x : List Int} (_hr : r.length = 32) (_hx : x.length = 32) (w : World) (n i L pl pc : Nat) (ao : Option Addr) (h1 : 1 ≤ n) (h6 : n ≤ 65536) (hi : i < n) (hpl : pl ≠ L) (cL : ∀ W, Below w.heap.size w W → Calls Tryd.prog 52 #[.int .i64 (n : Int), .int .i64 (i : Int)] W fun e w' => e = .returned (.int .i64 (L : Int)) ∧ Below W.heap.size W w') : Calls Tryd.prog 30 #[.agg (irow .u8 r), .int .i64 (n : Int), .int .i64 (i : Int), .agg (irow .u8 x), .slice ao pl pc] w fun e w' => e = .returned (.int .i64 211) ∧ Below w.heap.size w w' := by
  have d0 : decide ((n : Int) < 1) = false := by simp <;> omega
  have d1 : decide ((n : Int) > 65536) = false := by simp <;> omega
  have d2 : decide ((i : Int) < 0) = false := by simp <;> omega
  have d3 : decide ((i : Int) ≥ (n : Int)) = false := by simp <;> omega
  have dL : decide ((pl : Int) = (L : Int)) = false := by simp; omega
  have rp0 := hp2_0 w (.cells (irow .u8 r) 24) (.cells (irow .u8 x) 24)
  have rp1 := hp2_1 w (.cells (irow .u8 r) 24) (.cells (irow .u8 x) 24)
  have hw : Below w.heap.size w ((w.alloc (.cells (irow .u8 r) 24)).alloc (.cells (irow .u8 x) 24)) := (((Below.refl _ _).alloc (Nat.le_refl _) _).alloc (by simp) _)
  go_enter Tryd.func30, Tryd.ntmps30
  iterate 9 go_step
  generalize ((w.alloc (.cells (irow .u8 r) 24)).alloc (.cells (irow .u8 x) 24)) = w0 at *
  go_wp2_with (fail)
  refine (cL _ hw).mono ?_
  rintro e_ w1 ⟨rfl, hb⟩
  replace rp0 := keep hb rp0
  replace rp1 := keep hb rp1
  replace hw := Below.after hw hb
  clear hb
  go_wp2_with (fail)
  go_ret
  exact ⟨rfl, hw⟩
set_option maxRecDepth 100000 in
set_option maxHeartbeats 8000000 in
theorem r_incl_go {r x A : List Int} {T : List (List Int)} {eq : Bool} (hr : r.length = 32) (hx : x.length = 32) (hA : A.length = 32) (w : World) (n i L pc : Nat) (ao : Option Addr) (h1 : 1 ≤ n) (h6 : n ≤ 65536) (hi : i < n) (_hL : L ≤ 4398046511000) (cL : ∀ W, Below w.heap.size w W → Calls Tryd.prog 52 #[.int .i64 (n : Int), .int .i64 (i : Int)] W fun e w' => e = .returned (.int .i64 (L : Int)) ∧ Below W.heap.size W w') (cM : (∀ W, Below w.heap.size w W → Calls Tryd.prog 36 #[.int .i64 (n : Int), .int .i64 (i : Int), .agg (irow .u8 x), .slice ao L pc] W fun e w' => ∃ v, e = .returned v ∧ ∃ vt, v = .tuple #[.agg (irow .u8 A), vt] ∧ OwnT w' W.heap.size vt T ∧ Below W.heap.size W w')) (heq : ∀ W, (Op.equalIn 10000 24 (.agg (irow .u8 A)) (.agg (irow .u8 r))).run Tryd.prog W = .ok eq W) : Calls Tryd.prog 30 #[.agg (irow .u8 r), .int .i64 (n : Int), .int .i64 (i : Int), .agg (irow .u8 x), .slice ao L pc] w fun e w' => e = .returned (.int .i64 (okE true eq)) ∧ Below w.heap.size w w' := by
  have d0 : decide ((n : Int) < 1) = false := by simp <;> omega
  have d1 : decide ((n : Int) > 65536) = false := by simp <;> omega
  have d2 : decide ((i : Int) < 0) = false := by simp <;> omega
  have d3 : decide ((i : Int) ≥ (n : Int)) = false := by simp <;> omega
  have dL : decide ((L : Int) = (L : Int)) = true := by simp
  have rp0 := hp2_0 w (.cells (irow .u8 r) 24) (.cells (irow .u8 x) 24)
  have rp1 := hp2_1 w (.cells (irow .u8 r) 24) (.cells (irow .u8 x) 24)
  have hw : Below w.heap.size w ((w.alloc (.cells (irow .u8 r) 24)).alloc (.cells (irow .u8 x) 24)) := (((Below.refl _ _).alloc (Nat.le_refl _) _).alloc (by simp) _)
  go_enter Tryd.func30, Tryd.ntmps30
  iterate 9 go_step
  generalize ((w.alloc (.cells (irow .u8 r) 24)).alloc (.cells (irow .u8 x) 24)) = w0 at *
  go_wp2_with (fail)
  refine (cL _ hw).mono ?_
  rintro e_ w1 ⟨rfl, hb⟩
  replace rp0 := keep hb rp0
  replace rp1 := keep hb rp1
  replace hw := Below.after hw hb
  clear hb
  go_wp2_with (first | (refine wpList_load_want rfl 24 _ rfl (w.heap.size) rfl 24 (irow .u8 r) (0, 0) _ rp0 Tryd.underlying24 rfl (infok8 _ hr) ?_) | (refine wpList_load_want rfl 24 _ rfl (w.heap.size + 1) rfl 24 (irow .u8 x) (0, 0) _ rp1 Tryd.underlying24 rfl (infok8 _ hx) ?_) | fail)
  refine (cM _ hw).mono ?_
  rintro e_ w2 ⟨_, rfl, vt, rfl, hT, hb⟩
  replace rp0 := keep hb rp0
  replace rp1 := keep hb rp1
  replace hw := Below.after hw hb
  clear hb
  obtain ⟨at_, ac_, et_⟩ := hT.slc
  subst et_
  clear hT
  go_wp2_with (first | (refine wpList_store_row rfl 24 _ _ rfl (w2.heap.size) (irow .u8 A) rfl rfl 24 (irow .u8 (zr 32)) (hp1_0 w2 _) (infok8 _ hA) (((irow_size _ _).trans (zr_len 32)).trans ((irow_size _ _).trans hA).symm) (irow_one8 _) ?_; rw [setRow_alloc_new _ _ _ _ _ _ (by simp)]; refine wpList_stay ?_) | fail)
  unfold WpStay
  try simp only [Act.put]
  have rl11 : (w2.alloc (.cells (irow .u8 A) 24)).heap[w2.heap.size]? = some (.cells (irow .u8 A) 24 (0, 0)) := hp1_0 w2 _
  have hb : Below w2.heap.size w2 (w2.alloc (.cells (irow .u8 A) 24)) := ((Below.refl _ _).alloc (Nat.le_refl _) _)
  generalize (w2.alloc (.cells (irow .u8 A) 24)) = w3 at *
  have lt_g11_0 := lt_of_row rp0
  have lt_g11_1 := lt_of_row rp1
  have sz_g11 := hw.size
  replace rp0 := keep hb rp0
  replace rp1 := keep hb rp1
  replace hw := Below.after hw hb
  clear hb
  generalize w2.heap.size = g11 at *
  clear w2
  cases eq
  · skip
    go_wp2_with (first | (refine wpList_load_part rfl 24 _ rfl (w.heap.size) 0 rfl 24 (irow .u8 r) (0, 0) (irow .u8 r) _ rp0 (all_rowe _) Tryd.underlying24 rfl (infok8 _ hr) ?_) | (refine wpList_load_part rfl 24 _ rfl (w.heap.size + 1) 0 rfl 24 (irow .u8 x) (0, 0) (irow .u8 x) _ rp1 (all_rowe _) Tryd.underlying24 rfl (infok8 _ hx) ?_) | (refine wpList_load_part rfl 24 _ rfl (g11) 0 rfl 24 (irow .u8 A) (0, 0) (irow .u8 A) _ rl11 (all_rowe _) Tryd.underlying24 rfl (infok8 _ hA) ?_) | fail)
    go_ret
    exact ⟨rfl, hw⟩
  · skip
    go_wp2_with (first | (refine wpList_load_part rfl 24 _ rfl (w.heap.size) 0 rfl 24 (irow .u8 r) (0, 0) (irow .u8 r) _ rp0 (all_rowe _) Tryd.underlying24 rfl (infok8 _ hr) ?_) | (refine wpList_load_part rfl 24 _ rfl (w.heap.size + 1) 0 rfl 24 (irow .u8 x) (0, 0) (irow .u8 x) _ rp1 (all_rowe _) Tryd.underlying24 rfl (infok8 _ hx) ?_) | (refine wpList_load_part rfl 24 _ rfl (g11) 0 rfl 24 (irow .u8 A) (0, 0) (irow .u8 A) _ rl11 (all_rowe _) Tryd.underlying24 rfl (infok8 _ hA) ?_) | fail)
    go_ret
    exact ⟨rfl, hw⟩
theorem r_Included (r x : List Int) (n i : Int) (p : List (List Int)) (w : World) (v : Value) (hr : Ky r) (hx : Ky x) (hP : Ksl w v p) : Calls Tryd.prog 30 #[.agg (irow .u8 r), .int .i64 n, .int .i64 i, .agg (irow .u8 x), v] w fun e w' => e = .returned (.int .i64 (inE r n i x p)) ∧ Below w.heap.size w w' := by
  unfold inE
  by_cases hb : n < 1 ∨ 65536 < n ∨ i < 0 ∨ n ≤ i
  · rw [if_pos hb]
    exact r_Incl_bad hr.1 hx.1 w n i v (by omega)
  · rw [if_neg hb]
    obtain ⟨N, rfl⟩ := Int.eq_ofNat_of_zero_le (show 0 ≤ n by omega)
    obtain ⟨I, rfl⟩ := Int.eq_ofNat_of_zero_le (show 0 ≤ i by omega)
    rw [Int.toNat_natCast, Int.toNat_natCast]
    have hle := hP.le
    obtain ⟨ao, cap, rfl, _, _⟩ := hP.slc
    have cL := fun (W : World) (_ : Below w.heap.size w W) => r_long N I W (by omega) (by omega) (by omega)
    by_cases hf : p.length = lng N I
    · rw [hf] at hP ⊢
      have h := r_incl_go (eq := decide (mde sumL N I x p = r)) hr.1 hx.1 (Ky.mde hx).1 w N I (lng N I) cap ao (by omega) (by omega) (by omega) (by omega) cL (fun W hW => r_Made N I x p W _ (by omega) (by omega) (by omega) hx hf (hP.keep hW)) (eqK _ _ (Ky.mde hx).1 hr.1)
      refine h.mono fun e w' ⟨h1, h2⟩ => ⟨?_, h2⟩
      rw [h1, okE_eq]
      simp
    · rw [if_neg (fun h => hf h.1)]
      exact r_incl_no hr.1 hx.1 w N I (lng N I) p.length cap ao (by omega) (by omega) (by omega) hf cL
end Go.Proofs.YtgfeacnhdlgpoaaDoor
