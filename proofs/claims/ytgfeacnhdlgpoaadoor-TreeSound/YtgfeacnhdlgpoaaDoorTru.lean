import Derived.Test.YtgfeacnhdlgpoaaDoorProg
import Derived.WalkKit
import Derived.WalkSpells
import Derived.WalkLawsBesides
import Derived.Lib.QuietBelow
import Derived.BigQuiet
import Derived.OrdersHeld
import Derived.OwnWalk
import Derived.Deep.RegionHeld3
import Derived.Deep.Cut
import Derived.Deep.CutRange
import Derived.Test.YtgfeacnhdlgpoaaDoorTrs
namespace Go.Proofs.YtgfeacnhdlgpoaaDoor
set_option maxRecDepth 100000
open Go Go.RowKit Go.Sort
attribute [local go_sem] setCell_drewN alloc_drewN
theorem btx_len (H : List Int → List Int) (o : Bool) : ∀ (n m : Nat) (wh : Bool) (x : List Int) (p : List (List Int)), 1 ≤ m → (btx H o m n wh x p).length ≤ n := by
  intro n
  induction n using Nat.strongRecOn with
  | ind n ih =>
    intro m wh x p hm
    by_cases h : n ≤ m
    · rw [btx_end H h]; simp
    · have a := ct_lt (n := n) (by omega)
      have b := ct_pos n
      by_cases hi : m ≤ ctN n
      · have := ih _ a m wh x p.dropLast hm
        rw [btx_lo H hm (by omega) hi, List.length_append]
        cases o <;> simp <;> omega
      · have := ih (n - ctN n) (by omega) (m - ctN n) false x p.dropLast (by omega)
        rw [btx_hi H hm (by omega) hi, List.length_append]
        simp; omega
theorem Ky.bde {n m : Nat} {wh : Bool} {x : List Int} {p : List (List Int)} (hx : Ky x) (hp : Kok p) (hm : 1 ≤ m) (hl : p.length = kys n m wh) : Ky (bde sumL m n wh x p).1 ∧ Ky (bde sumL m n wh x p).2 := by
  obtain ⟨h1, h2⟩ := (bth_bde sumL n m wh x p hm).2 hl
  rw [← h1, ← h2]
  exact Ky.bth n m wh x p hx hp hm
theorem r_Both : ∀ (n m : Nat) (wh : Bool) (x : List Int) (p : List (List Int)) (w : World) (v : Value), 1 ≤ m → m ≤ n → n ≤ 65536 → Ky x → p.length = kys n m wh → Ksl w v p → Calls Tryd.prog 39 #[.agg (irow .u8 x), .int .i64 (m : Int), .int .i64 (n : Int), .bool wh, v] w fun e w' => ∃ v, e = .returned v ∧ ∃ vs vt, v = .tuple #[.agg (irow .u8 (bde sumL m n wh x p).1), .agg (irow .u8 (bde sumL m n wh x p).2), vs, vt] ∧ OwnT w' w.heap.size vs (btx sumL true m n wh x p) ∧ OwnT w' w.heap.size vt (btx sumL false m n wh x p) ∧ Dj vs vt ∧ Below w.heap.size w w' := by
  intro n
  induction n using Nat.strongRecOn with
  | ind n ih =>
    intro m wh x p w v h1 hmn hn hx hl hP
    have hle := hP.le
    by_cases h : n ≤ m
    · obtain rfl : m = n := by omega
      rw [bde_end sumL h, btx_end sumL h, btx_end sumL h]
      rw [kys_end h] at hl
      cases wh with
      | true => exact r_both_end hx.1 w v m
      | false =>
        have hl1 : p.length = 1 := hl
        obtain ⟨g, off, cs, t, fr, j, cap, hm, rfl, hc, hg, hE, kE, hD⟩ := hP.last (by omega)
        obtain rfl : j = 0 := by omega
        have e : p.getLastD [] = p.getD 0 [] := by
          match p, hl1 with
          | [y], _ => rfl
        rw [e] at hE kE
        rw [Nat.zero_mul, Nat.add_zero] at hE
        exact r_both_last hx.1 kE.1 w m g off cap cs t fr hg hE
    · have h2 : ¬ n < 2 := by omega
      have a := ct_lt h2
      have b := ct_pos n
      have h0 : ¬ p.length = 0 := by
        by_cases hk : m ≤ ctN n
        · rw [kys_lo h1 (by omega) hk] at hl; omega
        · rw [kys_hi h1 (by omega) hk] at hl; omega
      obtain ⟨g, off, cs, t, fr, j, cap, hm, rfl, hc, hg, hE, kE, hD⟩ := hP.last h0
      have hd : p.dropLast.length = j := by rw [List.length_dropLast]; omega
      have hpd : Kok p.dropLast := fun k hk => hP.ok k (List.dropLast_subset _ hk)
      by_cases hk : m ≤ ctN n
      · rw [kys_lo h1 (by omega) hk] at hl
        obtain ⟨kA, kB⟩ := Ky.bde (n := ctN n) (m := m) (wh := wh) hx hpd h1 (by omega)
        rw [bde_lo sumL h1 (by omega) hk, btx_lo sumL h1 (by omega) hk, btx_lo sumL h1 (by omega) hk]
        simp only [if_true, Bool.false_eq_true, if_false, List.append_nil]
        exact r_both_lo hx.1 kA.1 kB.1 kE.1 (Ky.nd _ _).1 (Nat.le_trans (btx_len sumL _ _ _ _ _ _ h1) (by omega)) w n (ctN n) m j wh (by omega) a hk (by omega) (by omega) g off cap cs t fr hg hc hE (r_cut _ h2 (by omega)) (fun W hW => ih _ a _ _ _ _ _ _ h1 hk (by omega) hx (by omega) (hD W hW)) (fun W hW => r_Node _ _ kB.1 kE.1 kB.2 kE.2 W) (fun W hW => r_textD hW _ _ kB kE)
      · rw [kys_hi h1 (by omega) hk] at hl
        obtain ⟨kA, kB⟩ := Ky.bde (n := n - ctN n) (m := m - ctN n) (wh := false) hx hpd (by omega) (by omega)
        rw [bde_hi sumL h1 (by omega) hk, btx_hi sumL h1 (by omega) hk, btx_hi sumL h1 (by omega) hk]
        simp only [if_true, Bool.false_eq_true, if_false]
        have e1 : (n : Int) - (ctN n : Int) = ((n - ctN n : Nat) : Int) := by omega
        have e2 : (m : Int) - (ctN n : Int) = ((m - ctN n : Nat) : Int) := by omega
        exact r_both_hi hx.1 kA.1 kB.1 kE.1 (Ky.nd _ _).1 (Nat.le_trans (btx_len sumL _ _ _ _ _ _ (by omega)) (by omega)) (Ky.nd _ _).1 (Nat.le_trans (btx_len sumL _ _ _ _ _ _ (by omega)) (by omega)) w n (ctN n) m j wh (by omega) a hk (by omega) (by omega) g off cap cs t fr hg hc hE (r_cut _ h2 (by omega)) (fun W hW => by rw [e1, e2]; exact ih (n - ctN n) (by omega) _ _ _ _ _ _ (by omega) (by omega) (by omega) hx (by omega) (hD W hW)) (fun W hW => r_Node _ _ kE.1 kA.1 kE.2 kA.2 W) (fun W hW => r_textD hW _ _ kE kA) (fun W hW => r_Node _ _ kE.1 kB.1 kE.2 kB.2 W) (fun W hW => r_textD hW _ _ kE kB)
set_option maxRecDepth 100000 in
set_option maxHeartbeats 8000000 in
theorem r_Gr_bad {o r : List Int} (_ho : o.length = 32) (_hr : r.length = 32) (w : World) (n m : Int) (v : Value) (hn : n < 0 ∨ (¬ n < 0 ∧ 65536 < n) ∨ (¬ n < 0 ∧ ¬ 65536 < n ∧ m < 0) ∨ (¬ n < 0 ∧ ¬ 65536 < n ∧ ¬ m < 0 ∧ n < m)) : Calls Tryd.prog 32 #[.agg (irow .u8 o), .int .i64 m, .agg (irow .u8 r), .int .i64 n, v] w fun e w' => e = .returned (.int .i64 210) ∧ Below w.heap.size w w' := by
  have rp0 := hp2_0 w (.cells (irow .u8 o) 24) (.cells (irow .u8 r) 24)
  have rp1 := hp2_1 w (.cells (irow .u8 o) 24) (.cells (irow .u8 r) 24)
  have hw : Below w.heap.size w ((w.alloc (.cells (irow .u8 o) 24)).alloc (.cells (irow .u8 r) 24)) := (((Below.refl _ _).alloc (Nat.le_refl _) _).alloc (by simp) _)
  go_enter Tryd.func32, Tryd.ntmps32
  iterate 9 go_step
  generalize ((w.alloc (.cells (irow .u8 o) 24)).alloc (.cells (irow .u8 r) 24)) = w0 at *
  rcases hn with h | ⟨h, h1⟩ | ⟨h, h0, h1⟩ | ⟨h, h0, h1, h2⟩
  · skip
    have d0 : decide (n < 0) = true := by simp <;> omega
    go_wp2_with (fail)
    go_ret
    exact ⟨rfl, hw⟩
  · skip
    have d0 : decide (n < 0) = false := by simp <;> omega
    have d1 : decide (n > 65536) = true := by simp <;> omega
    go_wp2_with (fail)
    go_ret
    exact ⟨rfl, hw⟩
  · skip
    have d0 : decide (n < 0) = false := by simp <;> omega
    have d1 : decide (n > 65536) = false := by simp <;> omega
    have d2 : decide (m < 0) = true := by simp <;> omega
    go_wp2_with (fail)
    go_ret
    exact ⟨rfl, hw⟩
  · skip
    have d0 : decide (n < 0) = false := by simp <;> omega
    have d1 : decide (n > 65536) = false := by simp <;> omega
    have d2 : decide (m < 0) = false := by simp <;> omega
    have d3 : decide (m > n) = true := by simp <;> omega
    go_wp2_with (fail)
    go_ret
    exact ⟨rfl, hw⟩
set_option maxRecDepth 100000 in
set_option maxHeartbeats 8000000 in
theorem r_gr_none {o r S : List Int} {pz e1 nz e2 : Bool} (ho : o.length = 32) (hr : r.length = 32) (hS32 : S.length = 32) (eS : Hid (sumL [] = S)) (w : World) (n : Nat) (h6 : n ≤ 65536) (ao : Option Addr) (pl pc : Nat) (dp : Hid ((pl == 0) = pz)) (dn : ((n : Int) == 0) = nz) (dn2 : (n == 0) = nz) (q1 : ∀ W, (Op.equalIn 10000 24 (.agg (irow .u8 o)) (.agg (irow .u8 S))).run Tryd.prog W = .ok e1 W) (q2 : ∀ W, (Op.equalIn 10000 24 (.agg (irow .u8 r)) (.agg (irow .u8 S))).run Tryd.prog W = .ok e2 W) : Calls Tryd.prog 32 #[.agg (irow .u8 o), .int .i64 0, .agg (irow .u8 r), .int .i64 (n : Int), .slice ao pl pc] w fun e w' => e = .returned (.int .i64 (gnE pz e1 nz e2)) ∧ Below w.heap.size w w' := by
  have d0 : decide ((n : Int) < 0) = false := by simp <;> omega
  have d1 : decide ((n : Int) > 65536) = false := by simp <;> omega
  have d2 : decide ((0 : Int) > (n : Int)) = false := by simp <;> omega
  have rp0 := hp2_0 w (.cells (irow .u8 o) 24) (.cells (irow .u8 r) 24)
  have rp1 := hp2_1 w (.cells (irow .u8 o) 24) (.cells (irow .u8 r) 24)
  have hw : Below w.heap.size w ((w.alloc (.cells (irow .u8 o) 24)).alloc (.cells (irow .u8 r) 24)) := (((Below.refl _ _).alloc (Nat.le_refl _) _).alloc (by simp) _)
  go_enter Tryd.func32, Tryd.ntmps32
  iterate 9 go_step
  generalize ((w.alloc (.cells (irow .u8 o) 24)).alloc (.cells (irow .u8 r) 24)) = w0 at *
  go_wp2_with (fail)
  refine (r_root0 hS32 eS _ none 0).mono ?_
  rintro e_ w1 ⟨rfl, hb⟩
  replace rp0 := keep hb rp0
  replace rp1 := keep hb rp1
  replace hw := Below.after hw hb
  clear hb
  go_wp2_with (first | (refine wpList_store_row rfl 24 _ _ rfl (w1.heap.size) (irow .u8 S) rfl rfl 24 (irow .u8 (zr 32)) (hp1_0 w1 _) (infok8 _ hS32) (((irow_size _ _).trans (zr_len 32)).trans ((irow_size _ _).trans hS32).symm) (irow_one8 _) ?_; rw [setRow_alloc_new _ _ _ _ _ _ (by simp)]; refine wpList_stay ?_) | fail)
  unfold WpStay
  try simp only [Act.put]
  have rl11 : (w1.alloc (.cells (irow .u8 S) 24)).heap[w1.heap.size]? = some (.cells (irow .u8 S) 24 (0, 0)) := hp1_0 w1 _
  have hb : Below w1.heap.size w1 (w1.alloc (.cells (irow .u8 S) 24)) := ((Below.refl _ _).alloc (Nat.le_refl _) _)
  generalize (w1.alloc (.cells (irow .u8 S) 24)) = w2 at *
  have lt_g9_0 := lt_of_row rp0
  have lt_g9_1 := lt_of_row rp1
  have sz_g9 := hw.size
  replace rp0 := keep hb rp0
  replace rp1 := keep hb rp1
  replace hw := Below.after hw hb
  clear hb
  generalize w1.heap.size = g9 at *
  clear w1
  cases pz
  · skip
    have hpl : ¬ pl = 0 := by have := dp.out; cases pl <;> simp at this ⊢
    have d1 : decide (pl = 0) = false := by simp; omega
    have d1i : decide ((pl : Int) = 0) = false := by simp; omega
    go_wp2_with (first | (refine wpList_load_part rfl 24 _ rfl (w.heap.size) 0 rfl 24 (irow .u8 o) (0, 0) (irow .u8 o) _ rp0 (all_rowe _) Tryd.underlying24 rfl (infok8 _ ho) ?_) | (refine wpList_load_part rfl 24 _ rfl (w.heap.size + 1) 0 rfl 24 (irow .u8 r) (0, 0) (irow .u8 r) _ rp1 (all_rowe _) Tryd.underlying24 rfl (infok8 _ hr) ?_) | (refine wpList_load_part rfl 24 _ rfl (g9) 0 rfl 24 (irow .u8 S) (0, 0) (irow .u8 S) _ rl11 (all_rowe _) Tryd.underlying24 rfl (infok8 _ hS32) ?_) | fail)
    go_ret
    exact ⟨rfl, hw⟩
  · obtain rfl : pl = 0 := by have := dp.out; simpa using this
    clear dp
    cases e1
    · skip
      go_wp2_with (first | (refine wpList_load_part rfl 24 _ rfl (w.heap.size) 0 rfl 24 (irow .u8 o) (0, 0) (irow .u8 o) _ rp0 (all_rowe _) Tryd.underlying24 rfl (infok8 _ ho) ?_) | (refine wpList_load_part rfl 24 _ rfl (w.heap.size + 1) 0 rfl 24 (irow .u8 r) (0, 0) (irow .u8 r) _ rp1 (all_rowe _) Tryd.underlying24 rfl (infok8 _ hr) ?_) | (refine wpList_load_part rfl 24 _ rfl (g9) 0 rfl 24 (irow .u8 S) (0, 0) (irow .u8 S) _ rl11 (all_rowe _) Tryd.underlying24 rfl (infok8 _ hS32) ?_) | fail)
      go_ret
      exact ⟨rfl, hw⟩
    · cases nz
      · skip
        go_wp2_with (first | (refine wpList_load_part rfl 24 _ rfl (w.heap.size) 0 rfl 24 (irow .u8 o) (0, 0) (irow .u8 o) _ rp0 (all_rowe _) Tryd.underlying24 rfl (infok8 _ ho) ?_) | (refine wpList_load_part rfl 24 _ rfl (w.heap.size + 1) 0 rfl 24 (irow .u8 r) (0, 0) (irow .u8 r) _ rp1 (all_rowe _) Tryd.underlying24 rfl (infok8 _ hr) ?_) | (refine wpList_load_part rfl 24 _ rfl (g9) 0 rfl 24 (irow .u8 S) (0, 0) (irow .u8 S) _ rl11 (all_rowe _) Tryd.underlying24 rfl (infok8 _ hS32) ?_) | fail)
        go_ret
        exact ⟨rfl, hw⟩
      · cases e2
        · skip
          go_wp2_with (first | (refine wpList_load_part rfl 24 _ rfl (w.heap.size) 0 rfl 24 (irow .u8 o) (0, 0) (irow .u8 o) _ rp0 (all_rowe _) Tryd.underlying24 rfl (infok8 _ ho) ?_) | (refine wpList_load_part rfl 24 _ rfl (w.heap.size + 1) 0 rfl 24 (irow .u8 r) (0, 0) (irow .u8 r) _ rp1 (all_rowe _) Tryd.underlying24 rfl (infok8 _ hr) ?_) | (refine wpList_load_part rfl 24 _ rfl (g9) 0 rfl 24 (irow .u8 S) (0, 0) (irow .u8 S) _ rl11 (all_rowe _) Tryd.underlying24 rfl (infok8 _ hS32) ?_) | fail)
          go_ret
          exact ⟨rfl, hw⟩
        · skip
          go_wp2_with (first | (refine wpList_load_part rfl 24 _ rfl (w.heap.size) 0 rfl 24 (irow .u8 o) (0, 0) (irow .u8 o) _ rp0 (all_rowe _) Tryd.underlying24 rfl (infok8 _ ho) ?_) | (refine wpList_load_part rfl 24 _ rfl (w.heap.size + 1) 0 rfl 24 (irow .u8 r) (0, 0) (irow .u8 r) _ rp1 (all_rowe _) Tryd.underlying24 rfl (infok8 _ hr) ?_) | (refine wpList_load_part rfl 24 _ rfl (g9) 0 rfl 24 (irow .u8 S) (0, 0) (irow .u8 S) _ rl11 (all_rowe _) Tryd.underlying24 rfl (infok8 _ hS32) ?_) | fail)
          go_ret
          exact ⟨rfl, hw⟩
set_option maxRecDepth 100000 in
set_option maxHeartbeats 8000000 in
theorem r_gr_all {o r S : List Int} {pz e1 : Bool} (ho : o.length = 32) (hr : r.length = 32) (hS32 : S.length = 32) (eS : Hid (sumL [] = S)) (w : World) (n : Nat) (h1 : 1 ≤ n) (h6 : n ≤ 65536) (ao : Option Addr) (pl pc : Nat) (dp : Hid ((pl == 0) = pz)) (q1 : ∀ W, (Op.equalIn 10000 24 (.agg (irow .u8 o)) (.agg (irow .u8 r))).run Tryd.prog W = .ok e1 W) : Calls Tryd.prog 32 #[.agg (irow .u8 o), .int .i64 (n : Int), .agg (irow .u8 r), .int .i64 (n : Int), .slice ao pl pc] w fun e w' => e = .returned (.int .i64 (okE pz e1)) ∧ Below w.heap.size w w' := by
  have d0 : decide ((n : Int) < 0) = false := by simp <;> omega
  have d1 : decide ((n : Int) > 65536) = false := by simp <;> omega
  have d2 : decide ((n : Int) > (n : Int)) = false := by simp <;> omega
  have d3 : decide ((n : Int) = 0) = false := by simp <;> omega
  have d4 : decide ((n : Int) = (n : Int)) = true := by simp <;> omega
  have rp0 := hp2_0 w (.cells (irow .u8 o) 24) (.cells (irow .u8 r) 24)
  have rp1 := hp2_1 w (.cells (irow .u8 o) 24) (.cells (irow .u8 r) 24)
  have hw : Below w.heap.size w ((w.alloc (.cells (irow .u8 o) 24)).alloc (.cells (irow .u8 r) 24)) := (((Below.refl _ _).alloc (Nat.le_refl _) _).alloc (by simp) _)
  go_enter Tryd.func32, Tryd.ntmps32
  iterate 9 go_step
  generalize ((w.alloc (.cells (irow .u8 o) 24)).alloc (.cells (irow .u8 r) 24)) = w0 at *
  go_wp2_with (fail)
  refine (r_root0 hS32 eS _ none 0).mono ?_
  rintro e_ w1 ⟨rfl, hb⟩
  replace rp0 := keep hb rp0
  replace rp1 := keep hb rp1
  replace hw := Below.after hw hb
  clear hb
  go_wp2_with (first | (refine wpList_store_row rfl 24 _ _ rfl (w1.heap.size) (irow .u8 S) rfl rfl 24 (irow .u8 (zr 32)) (hp1_0 w1 _) (infok8 _ hS32) (((irow_size _ _).trans (zr_len 32)).trans ((irow_size _ _).trans hS32).symm) (irow_one8 _) ?_; rw [setRow_alloc_new _ _ _ _ _ _ (by simp)]; refine wpList_stay ?_) | fail)
  unfold WpStay
  try simp only [Act.put]
  have rl11 : (w1.alloc (.cells (irow .u8 S) 24)).heap[w1.heap.size]? = some (.cells (irow .u8 S) 24 (0, 0)) := hp1_0 w1 _
  have hb : Below w1.heap.size w1 (w1.alloc (.cells (irow .u8 S) 24)) := ((Below.refl _ _).alloc (Nat.le_refl _) _)
  generalize (w1.alloc (.cells (irow .u8 S) 24)) = w2 at *
  have lt_g9_0 := lt_of_row rp0
  have lt_g9_1 := lt_of_row rp1
  have sz_g9 := hw.size
  replace rp0 := keep hb rp0
  replace rp1 := keep hb rp1
  replace hw := Below.after hw hb
  clear hb
  generalize w1.heap.size = g9 at *
  clear w1
  cases pz
  · skip
    have hpl : ¬ pl = 0 := by have := dp.out; cases pl <;> simp at this ⊢
    have d1 : decide (pl = 0) = false := by simp; omega
    have d1i : decide ((pl : Int) = 0) = false := by simp; omega
    go_wp2_with (first | (refine wpList_load_part rfl 24 _ rfl (w.heap.size) 0 rfl 24 (irow .u8 o) (0, 0) (irow .u8 o) _ rp0 (all_rowe _) Tryd.underlying24 rfl (infok8 _ ho) ?_) | (refine wpList_load_part rfl 24 _ rfl (w.heap.size + 1) 0 rfl 24 (irow .u8 r) (0, 0) (irow .u8 r) _ rp1 (all_rowe _) Tryd.underlying24 rfl (infok8 _ hr) ?_) | (refine wpList_load_part rfl 24 _ rfl (g9) 0 rfl 24 (irow .u8 S) (0, 0) (irow .u8 S) _ rl11 (all_rowe _) Tryd.underlying24 rfl (infok8 _ hS32) ?_) | fail)
    go_ret
    exact ⟨rfl, hw⟩
  · obtain rfl : pl = 0 := by have := dp.out; simpa using this
    clear dp
    cases e1
    · skip
      go_wp2_with (first | (refine wpList_load_part rfl 24 _ rfl (w.heap.size) 0 rfl 24 (irow .u8 o) (0, 0) (irow .u8 o) _ rp0 (all_rowe _) Tryd.underlying24 rfl (infok8 _ ho) ?_) | (refine wpList_load_part rfl 24 _ rfl (w.heap.size + 1) 0 rfl 24 (irow .u8 r) (0, 0) (irow .u8 r) _ rp1 (all_rowe _) Tryd.underlying24 rfl (infok8 _ hr) ?_) | (refine wpList_load_part rfl 24 _ rfl (g9) 0 rfl 24 (irow .u8 S) (0, 0) (irow .u8 S) _ rl11 (all_rowe _) Tryd.underlying24 rfl (infok8 _ hS32) ?_) | fail)
      go_ret
      exact ⟨rfl, hw⟩
    · skip
      go_wp2_with (first | (refine wpList_load_part rfl 24 _ rfl (w.heap.size) 0 rfl 24 (irow .u8 o) (0, 0) (irow .u8 o) _ rp0 (all_rowe _) Tryd.underlying24 rfl (infok8 _ ho) ?_) | (refine wpList_load_part rfl 24 _ rfl (w.heap.size + 1) 0 rfl 24 (irow .u8 r) (0, 0) (irow .u8 r) _ rp1 (all_rowe _) Tryd.underlying24 rfl (infok8 _ hr) ?_) | (refine wpList_load_part rfl 24 _ rfl (g9) 0 rfl 24 (irow .u8 S) (0, 0) (irow .u8 S) _ rl11 (all_rowe _) Tryd.underlying24 rfl (infok8 _ hS32) ?_) | fail)
      go_ret
      exact ⟨rfl, hw⟩
set_option maxRecDepth 100000 in
set_option maxHeartbeats 8000000 in
theorem r_gr_no {o r S : List Int} (_ho : o.length = 32) (_hr : r.length = 32) (hS32 : S.length = 32) (eS : Hid (sumL [] = S)) (w : World) (m n L : Nat) (h1 : 1 ≤ m) (hmn : m < n) (h6 : n ≤ 65536) (ao : Option Addr) (pl pc : Nat) (hpl : pl ≠ L) (cK : ∀ W, Below w.heap.size w W → Calls Tryd.prog 55 #[.int .i64 (n : Int), .int .i64 (m : Int), .bool true] W fun e w' => e = .returned (.int .i64 (L : Int)) ∧ Below W.heap.size W w') : Calls Tryd.prog 32 #[.agg (irow .u8 o), .int .i64 (m : Int), .agg (irow .u8 r), .int .i64 (n : Int), .slice ao pl pc] w fun e w' => e = .returned (.int .i64 211) ∧ Below w.heap.size w w' := by
  have d0 : decide ((n : Int) < 0) = false := by simp <;> omega
  have d1 : decide ((n : Int) > 65536) = false := by simp <;> omega
  have d2 : decide ((m : Int) < 0) = false := by simp <;> omega
  have d3 : decide ((m : Int) > (n : Int)) = false := by simp <;> omega
  have d4 : decide ((m : Int) = 0) = false := by simp <;> omega
  have d5 : decide ((m : Int) = (n : Int)) = false := by simp <;> omega
  have dL : decide ((pl : Int) = (L : Int)) = false := by simp; omega
  have dLn : decide (pl = L) = false := by simp; omega
  have rp0 := hp2_0 w (.cells (irow .u8 o) 24) (.cells (irow .u8 r) 24)
  have rp1 := hp2_1 w (.cells (irow .u8 o) 24) (.cells (irow .u8 r) 24)
  have hw : Below w.heap.size w ((w.alloc (.cells (irow .u8 o) 24)).alloc (.cells (irow .u8 r) 24)) := (((Below.refl _ _).alloc (Nat.le_refl _) _).alloc (by simp) _)
  go_enter Tryd.func32, Tryd.ntmps32
  iterate 9 go_step
  generalize ((w.alloc (.cells (irow .u8 o) 24)).alloc (.cells (irow .u8 r) 24)) = w0 at *
  go_wp2_with (fail)
  refine (r_root0 hS32 eS _ none 0).mono ?_
  rintro e_ w1 ⟨rfl, hb⟩
  replace rp0 := keep hb rp0
  replace rp1 := keep hb rp1
  replace hw := Below.after hw hb
  clear hb
  go_wp2_with (first | (refine wpList_store_row rfl 24 _ _ rfl (w1.heap.size) (irow .u8 S) rfl rfl 24 (irow .u8 (zr 32)) (hp1_0 w1 _) (infok8 _ hS32) (((irow_size _ _).trans (zr_len 32)).trans ((irow_size _ _).trans hS32).symm) (irow_one8 _) ?_; rw [setRow_alloc_new _ _ _ _ _ _ (by simp)]; refine wpList_stay ?_) | fail)
  unfold WpStay
  try simp only [Act.put]
  have rl11 : (w1.alloc (.cells (irow .u8 S) 24)).heap[w1.heap.size]? = some (.cells (irow .u8 S) 24 (0, 0)) := hp1_0 w1 _
  have hb : Below w1.heap.size w1 (w1.alloc (.cells (irow .u8 S) 24)) := ((Below.refl _ _).alloc (Nat.le_refl _) _)
  generalize (w1.alloc (.cells (irow .u8 S) 24)) = w2 at *
  have lt_g9_0 := lt_of_row rp0
  have lt_g9_1 := lt_of_row rp1
  have sz_g9 := hw.size
  replace rp0 := keep hb rp0
  replace rp1 := keep hb rp1
  replace hw := Below.after hw hb
  clear hb
  generalize w1.heap.size = g9 at *
  clear w1
  go_wp2_with (fail)
  refine (cK _ hw).mono ?_
  rintro e_ w3 ⟨rfl, hb⟩
  replace rp0 := keep hb rp0
  replace rp1 := keep hb rp1
  replace rl11 := keep hb rl11
  replace hw := Below.after hw hb
  clear hb
  go_wp2_with (fail)
  go_ret
  exact ⟨rfl, hw⟩
set_option maxRecDepth 100000 in
set_option maxHeartbeats 8000000 in
theorem r_gr_go {o r S A B : List Int} {U V : List (List Int)} {e1 e2 : Bool} (ho : o.length = 32) (hr : r.length = 32) (hA : A.length = 32) (hB : B.length = 32) (hS32 : S.length = 32) (eS : Hid (sumL [] = S)) (w : World) (m n L : Nat) (h1 : 1 ≤ m) (hmn : m < n) (h6 : n ≤ 65536) (ao : Option Addr) (pc : Nat) (cK : ∀ W, Below w.heap.size w W → Calls Tryd.prog 55 #[.int .i64 (n : Int), .int .i64 (m : Int), .bool true] W fun e w' => e = .returned (.int .i64 (L : Int)) ∧ Below W.heap.size W w') (cB : ∀ W, Below w.heap.size w W → Calls Tryd.prog 39 #[.agg (irow .u8 o), .int .i64 (m : Int), .int .i64 (n : Int), .bool true, .slice ao L pc] W fun e w' => ∃ v, e = .returned v ∧ ∃ vs vt, v = .tuple #[.agg (irow .u8 A), .agg (irow .u8 B), vs, vt] ∧ OwnT w' W.heap.size vs U ∧ OwnT w' W.heap.size vt V ∧ Dj vs vt ∧ Below W.heap.size W w') (q1 : ∀ W, (Op.equalIn 10000 24 (.agg (irow .u8 A)) (.agg (irow .u8 o))).run Tryd.prog W = .ok e1 W) (q2 : ∀ W, (Op.equalIn 10000 24 (.agg (irow .u8 B)) (.agg (irow .u8 r))).run Tryd.prog W = .ok e2 W) : Calls Tryd.prog 32 #[.agg (irow .u8 o), .int .i64 (m : Int), .agg (irow .u8 r), .int .i64 (n : Int), .slice ao L pc] w fun e w' => e = .returned (.int .i64 (gwE true e1 e2)) ∧ Below w.heap.size w w' := by
  have d0 : decide ((n : Int) < 0) = false := by simp <;> omega
  have d1 : decide ((n : Int) > 65536) = false := by simp <;> omega
  have d2 : decide ((m : Int) < 0) = false := by simp <;> omega
  have d3 : decide ((m : Int) > (n : Int)) = false := by simp <;> omega
  have d4 : decide ((m : Int) = 0) = false := by simp <;> omega
  have d5 : decide ((m : Int) = (n : Int)) = false := by simp <;> omega
  have dL : decide ((L : Int) = (L : Int)) = true := by simp
  have rp0 := hp2_0 w (.cells (irow .u8 o) 24) (.cells (irow .u8 r) 24)
  have rp1 := hp2_1 w (.cells (irow .u8 o) 24) (.cells (irow .u8 r) 24)
  have hw : Below w.heap.size w ((w.alloc (.cells (irow .u8 o) 24)).alloc (.cells (irow .u8 r) 24)) := (((Below.refl _ _).alloc (Nat.le_refl _) _).alloc (by simp) _)
  go_enter Tryd.func32, Tryd.ntmps32
  iterate 9 go_step
  generalize ((w.alloc (.cells (irow .u8 o) 24)).alloc (.cells (irow .u8 r) 24)) = w0 at *
  go_wp2_with (fail)
  refine (r_root0 hS32 eS _ none 0).mono ?_
  rintro e_ w1 ⟨rfl, hb⟩
  replace rp0 := keep hb rp0
  replace rp1 := keep hb rp1
  replace hw := Below.after hw hb
  clear hb
  go_wp2_with (first | (refine wpList_store_row rfl 24 _ _ rfl (w1.heap.size) (irow .u8 S) rfl rfl 24 (irow .u8 (zr 32)) (hp1_0 w1 _) (infok8 _ hS32) (((irow_size _ _).trans (zr_len 32)).trans ((irow_size _ _).trans hS32).symm) (irow_one8 _) ?_; rw [setRow_alloc_new _ _ _ _ _ _ (by simp)]; refine wpList_stay ?_) | fail)
  unfold WpStay
  try simp only [Act.put]
  have rl11 : (w1.alloc (.cells (irow .u8 S) 24)).heap[w1.heap.size]? = some (.cells (irow .u8 S) 24 (0, 0)) := hp1_0 w1 _
  have hb : Below w1.heap.size w1 (w1.alloc (.cells (irow .u8 S) 24)) := ((Below.refl _ _).alloc (Nat.le_refl _) _)
  generalize (w1.alloc (.cells (irow .u8 S) 24)) = w2 at *
  have lt_g9_0 := lt_of_row rp0
  have lt_g9_1 := lt_of_row rp1
  have sz_g9 := hw.size
  replace rp0 := keep hb rp0
  replace rp1 := keep hb rp1
  replace hw := Below.after hw hb
  clear hb
  generalize w1.heap.size = g9 at *
  clear w1
  go_wp2_with (fail)
  refine (cK _ hw).mono ?_
  rintro e_ w3 ⟨rfl, hb⟩
  replace rp0 := keep hb rp0
  replace rp1 := keep hb rp1
  replace rl11 := keep hb rl11
  replace hw := Below.after hw hb
  clear hb
  go_wp2_with (first | (refine wpList_load_part rfl 24 _ rfl (w.heap.size) 0 rfl 24 (irow .u8 o) (0, 0) (irow .u8 o) _ rp0 (all_rowe _) Tryd.underlying24 rfl (infok8 _ ho) ?_) | (refine wpList_load_part rfl 24 _ rfl (w.heap.size + 1) 0 rfl 24 (irow .u8 r) (0, 0) (irow .u8 r) _ rp1 (all_rowe _) Tryd.underlying24 rfl (infok8 _ hr) ?_) | (refine wpList_load_part rfl 24 _ rfl (g9) 0 rfl 24 (irow .u8 S) (0, 0) (irow .u8 S) _ rl11 (all_rowe _) Tryd.underlying24 rfl (infok8 _ hS32) ?_) | fail)
  refine (cB _ hw).mono ?_
  rintro e_ w4 ⟨_, rfl, vs, vt, rfl, hT1, hT2, hDj, hb⟩
  replace rp0 := keep hb rp0
  replace rp1 := keep hb rp1
  replace rl11 := keep hb rl11
  replace hw := Below.after hw hb
  clear hb
  obtain ⟨as_, cs_, es_⟩ := hT1.slc
  obtain ⟨at_, ct_, et_⟩ := hT2.slc
  subst es_ et_
  clear hT1 hT2 hDj
  go_wp2_with (first | (refine wpList_store_row rfl 24 _ _ rfl (w4.heap.size) (irow .u8 A) rfl rfl 24 (irow .u8 (zr 32)) (hp2_0 w4 _ _) (infok8 _ hA) (((irow_size _ _).trans (zr_len 32)).trans ((irow_size _ _).trans hA).symm) (irow_one8 _) ?_; rw [setRow_alloc_old _ _ _ _ (by simp), setRow_alloc_new _ _ _ _ _ _ (by simp)]) | (refine wpList_store_row rfl 24 _ _ rfl (w4.heap.size + 1) (irow .u8 B) rfl rfl 24 (irow .u8 (zr 32)) (hp2_1 w4 _ _) (infok8 _ hB) (((irow_size _ _).trans (zr_len 32)).trans ((irow_size _ _).trans hB).symm) (irow_one8 _) ?_; rw [setRow_alloc_new _ _ _ _ _ _ (by simp)]; refine wpList_stay ?_) | fail)
  unfold WpStay
  try simp only [Act.put]
  have rl12 : ((w4.alloc (.cells (irow .u8 A) 24)).alloc (.cells (irow .u8 B) 24)).heap[w4.heap.size]? = some (.cells (irow .u8 A) 24 (0, 0)) := hp2_0 w4 _ _
  have rl13 : ((w4.alloc (.cells (irow .u8 A) 24)).alloc (.cells (irow .u8 B) 24)).heap[w4.heap.size + 1]? = some (.cells (irow .u8 B) 24 (0, 0)) := hp2_1 w4 _ _
  have hb : Below w4.heap.size w4 ((w4.alloc (.cells (irow .u8 A) 24)).alloc (.cells (irow .u8 B) 24)) := (((Below.refl _ _).alloc (Nat.le_refl _) _).alloc (by simp) _)
  generalize ((w4.alloc (.cells (irow .u8 A) 24)).alloc (.cells (irow .u8 B) 24)) = w5 at *
  have lt_gab_0 := lt_of_row rp0
  have lt_gab_1 := lt_of_row rp1
  have lt_gab_2 := lt_of_row rl11
  have sz_gab := hw.size
  replace rp0 := keep hb rp0
  replace rp1 := keep hb rp1
  replace rl11 := keep hb rl11
  replace hw := Below.after hw hb
  clear hb
  generalize w4.heap.size = gab at *
  clear w4
  cases e1
  · skip
    go_wp2_with (first | (refine wpList_load_part rfl 24 _ rfl (w.heap.size) 0 rfl 24 (irow .u8 o) (0, 0) (irow .u8 o) _ rp0 (all_rowe _) Tryd.underlying24 rfl (infok8 _ ho) ?_) | (refine wpList_load_part rfl 24 _ rfl (w.heap.size + 1) 0 rfl 24 (irow .u8 r) (0, 0) (irow .u8 r) _ rp1 (all_rowe _) Tryd.underlying24 rfl (infok8 _ hr) ?_) | (refine wpList_load_part rfl 24 _ rfl (g9) 0 rfl 24 (irow .u8 S) (0, 0) (irow .u8 S) _ rl11 (all_rowe _) Tryd.underlying24 rfl (infok8 _ hS32) ?_) | (refine wpList_load_part rfl 24 _ rfl (gab) 0 rfl 24 (irow .u8 A) (0, 0) (irow .u8 A) _ rl12 (all_rowe _) Tryd.underlying24 rfl (infok8 _ hA) ?_) | (refine wpList_load_part rfl 24 _ rfl (gab + 1) 0 rfl 24 (irow .u8 B) (0, 0) (irow .u8 B) _ rl13 (all_rowe _) Tryd.underlying24 rfl (infok8 _ hB) ?_) | fail)
    go_ret
    exact ⟨rfl, hw⟩
  · cases e2
    · skip
      go_wp2_with (first | (refine wpList_load_part rfl 24 _ rfl (w.heap.size) 0 rfl 24 (irow .u8 o) (0, 0) (irow .u8 o) _ rp0 (all_rowe _) Tryd.underlying24 rfl (infok8 _ ho) ?_) | (refine wpList_load_part rfl 24 _ rfl (w.heap.size + 1) 0 rfl 24 (irow .u8 r) (0, 0) (irow .u8 r) _ rp1 (all_rowe _) Tryd.underlying24 rfl (infok8 _ hr) ?_) | (refine wpList_load_part rfl 24 _ rfl (g9) 0 rfl 24 (irow .u8 S) (0, 0) (irow .u8 S) _ rl11 (all_rowe _) Tryd.underlying24 rfl (infok8 _ hS32) ?_) | (refine wpList_load_part rfl 24 _ rfl (gab) 0 rfl 24 (irow .u8 A) (0, 0) (irow .u8 A) _ rl12 (all_rowe _) Tryd.underlying24 rfl (infok8 _ hA) ?_) | (refine wpList_load_part rfl 24 _ rfl (gab + 1) 0 rfl 24 (irow .u8 B) (0, 0) (irow .u8 B) _ rl13 (all_rowe _) Tryd.underlying24 rfl (infok8 _ hB) ?_) | fail)
      go_ret
      exact ⟨rfl, hw⟩
    · skip
      go_wp2_with (first | (refine wpList_load_part rfl 24 _ rfl (w.heap.size) 0 rfl 24 (irow .u8 o) (0, 0) (irow .u8 o) _ rp0 (all_rowe _) Tryd.underlying24 rfl (infok8 _ ho) ?_) | (refine wpList_load_part rfl 24 _ rfl (w.heap.size + 1) 0 rfl 24 (irow .u8 r) (0, 0) (irow .u8 r) _ rp1 (all_rowe _) Tryd.underlying24 rfl (infok8 _ hr) ?_) | (refine wpList_load_part rfl 24 _ rfl (g9) 0 rfl 24 (irow .u8 S) (0, 0) (irow .u8 S) _ rl11 (all_rowe _) Tryd.underlying24 rfl (infok8 _ hS32) ?_) | (refine wpList_load_part rfl 24 _ rfl (gab) 0 rfl 24 (irow .u8 A) (0, 0) (irow .u8 A) _ rl12 (all_rowe _) Tryd.underlying24 rfl (infok8 _ hA) ?_) | (refine wpList_load_part rfl 24 _ rfl (gab + 1) 0 rfl 24 (irow .u8 B) (0, 0) (irow .u8 B) _ rl13 (all_rowe _) Tryd.underlying24 rfl (infok8 _ hB) ?_) | fail)
      go_ret
      exact ⟨rfl, hw⟩
theorem r_Grown (o r : List Int) (m n : Int) (p : List (List Int)) (w : World) (v : Value) (ho : Ky o) (hr : Ky r) (hP : Ksl w v p) : Calls Tryd.prog 32 #[.agg (irow .u8 o), .int .i64 m, .agg (irow .u8 r), .int .i64 n, v] w fun e w' => e = .returned (.int .i64 (grE o m r n p)) ∧ Below w.heap.size w w' := by
  unfold grE
  by_cases hb : n < 0 ∨ 65536 < n ∨ m < 0 ∨ n < m
  · rw [if_pos hb]
    exact r_Gr_bad ho.1 hr.1 w n m v (by omega)
  · rw [if_neg hb]
    obtain ⟨N, rfl⟩ := Int.eq_ofNat_of_zero_le (show 0 ≤ n by omega)
    obtain ⟨M, rfl⟩ := Int.eq_ofNat_of_zero_le (show 0 ≤ m by omega)
    have hle := hP.le
    obtain ⟨ao, cap, rfl, _, _⟩ := hP.slc
    by_cases h0 : (M : Int) = 0
    · rw [if_pos h0, h0]
      refine (r_gr_none (pz := (p.length == 0)) (nz := ((N : Int) == 0)) ho.1 hr.1 (sumL_len []) (hide rfl) w N (by omega) ao p.length cap (hide rfl) rfl (by rw [Bool.eq_iff_iff]; simp) (eqK _ _ ho.1 (sumL_len _)) (eqK _ _ hr.1 (sumL_len _))).mono fun e w' ⟨q1, q2⟩ => ⟨?_, q2⟩
      rw [q1, gnE_eq]
      simp
    · rw [if_neg h0, Int.toNat_natCast, Int.toNat_natCast]
      have hm1 : 1 ≤ M := by omega
      by_cases hmn : M = N
      · subst hmn
        rw [kys_end (Nat.le_refl _), bde_end sumL (Nat.le_refl _)]
        refine (r_gr_all (pz := (p.length == 0)) ho.1 hr.1 (sumL_len []) (hide rfl) w M hm1 (by omega) ao p.length cap (hide rfl) (eqK _ _ ho.1 hr.1)).mono fun e w' ⟨q1, q2⟩ => ⟨?_, q2⟩
        rw [q1, okE_eq]
        simp
      · by_cases hf : p.length = kys N M true
        · obtain ⟨kA, kB⟩ := Ky.bde (n := N) (m := M) (wh := true) ho hP.ok hm1 hf
          rw [hf] at hP ⊢
          refine (r_gr_go ho.1 hr.1 kA.1 kB.1 (sumL_len []) (hide rfl) w M N _ hm1 (by omega) (by omega) ao cap (fun W hW => r_keys N M true W hm1 (by omega) (by omega)) (fun W hW => r_Both N M true o p W _ hm1 (by omega) (by omega) ho hf (hP.keep hW)) (eqK _ _ kA.1 ho.1) (eqK _ _ kB.1 hr.1)).mono fun e w' ⟨q1, q2⟩ => ⟨?_, q2⟩
          rw [q1, gwE_eq]
          simp
        · rw [if_neg (fun h => hf h.1)]
          exact r_gr_no ho.1 hr.1 (sumL_len []) (hide rfl) w M N _ hm1 (by omega) (by omega) ao p.length cap hf (fun W hW => r_keys N M true W hm1 (by omega) (by omega))
end Go.Proofs.YtgfeacnhdlgpoaaDoor
