import Derived.Test.YtgfeacnhdlgpoaaDoorProg
import Derived.WalkKit
import Derived.WalkSpells
import Derived.WalkLawsBesides
import Derived.Lib.QuietBelow
import Derived.BigQuiet
import Derived.OrdersHeld
import Derived.OwnWalk
import Derived.Deep.RegionHeld3
import Derived.Deep.Cut
import Derived.Deep.CutRange
import Derived.Test.YtgfeacnhdlgpoaaDoorTrf
import Derived.Test.YtgfeacnhdlgpoaaDoorHla
namespace Go.Proofs.YtgfeacnhdlgpoaaDoor
set_option maxRecDepth 100000
open Go Go.RowKit Go.Sort
attribute [local go_sem] setCell_drewN alloc_drewN
set_option maxHeartbeats 2000000 in
theorem l_lent21 (bs : List Int) (w : World) (ev : Value) (hB : Bys w ev bs) (hl : bs.length + 80 ≤ 281474976710656) (hnil : ∀ a l c, ev = .slice a l c → a = none → c = 0) : Calls Tryd.prog 11 #[ev] w fun e w' => ∃ v, e = .returned v ∧ ∃ g, v = .tuple #[.slice (some ⟨g, 0, none⟩) bs.length (bs.length + 80), .slice (some ⟨g, 0, none⟩) (bs.length + 80) (bs.length + 80)] ∧ w.heap.size ≤ g ∧ w'.heap[g]? = some (.cells (irow .u8 (bs ++ marks 80)) 5 (0, 0)) ∧ Below w.heap.size w w' := by
  obtain ⟨ao, cap, rfl, _, hc, hz⟩ := hB
  obtain ⟨i0, hi, hz0, hz1, hz2⟩ := info8
  generalize hlen : bs.length = len at *
  go_enter Tryd.func11, Tryd.ntmps11
  go_wp2_with (at_make; refine wpList_make_own _ rfl _ _ 22 rfl w.heap.size 5 i0 (.int .u8 0) 1 Tryd.underlying22 hi hz0 hz1 _ _ _ (len + 80) rfl rfl (by omega) ?b2 ?b3 (Nat.le_refl _) ?_)
  case b2 => rw [hz2]; omega
  case b3 => unfold maxLen; omega
  intro w0 hown0 hgrow0
  have hnone : ao = none → len = 0 ∧ cap = 0 := by
    intro h
    refine ⟨?_, hnil _ _ _ rfl h⟩
    rcases Nat.eq_zero_or_pos len with e | e
    · exact e
    · obtain ⟨b, off, e', _⟩ := hc 0 e
      rw [h] at e'; cases e'
  have hcell : ∀ ad, ao = some ad → ∀ j u, (bs.map (Value.int .u8))[j]? = some u → w0.cell? (ad.add j) = some u := by
    intro ad had j u hu
    have hj : j < len := by
      have := (List.getElem?_eq_some_iff.1 hu).1
      simpa [hlen] using this
    obtain ⟨b, off, e', hb, hcl⟩ := hc j hj
    obtain rfl : ad = ⟨b, off, none⟩ := Option.some.inj (had.symm.trans e')
    have : u = .int .u8 (bs.getD j 0) := by
      have hj' : j < bs.length := by omega
      simp only [List.getElem?_map, List.getElem?_eq_getElem hj', Option.map_some, Option.some.injEq] at hu
      rw [← hu, List.getD_eq_getElem?_getD, List.getElem?_eq_getElem hj']; rfl
    rw [this]
    rw [addr_add]
    exact hgrow0.cell (a := ⟨b, off + j, none⟩) hcl (fun e => by cases e)
  go_wp2_with (at_builtin; refine wpList_append_fits_any _ rfl (.tmp 10) (.tmp 11) 22 rfl w.heap.size 5 i0 1 Tryd.underlying22 hi hz1 w.heap.size 0 (len + 80) [] rfl hown0 ao len cap (bs.map (Value.int .u8)) rfl (by simp [hlen]) hnone hcell (ints_one .u8 bs) (by omega) ?_)
  intro w1 hown1 hgrow1
  have hw : Below w.heap.size w w1 := ((Below.refl _ _).grown hgrow0 (Nat.le_refl _) (fun k h => by cases h)).grown hgrow1 hgrow0.size (fun k h => by cases h; exact Nat.le_refl _)
  clear hcell hown0 hgrow0 hgrow1
  go_wp2
  go_loopw [4, 5] (fun s i wr => ∃ k : Nat, k ≤ 80 ∧ i = .int .i64 k ∧ s = .slice (some ⟨w.heap.size, 0, none⟩) (len + k) (len + 80) ∧ wr.ownsRow w.heap.size 5 1 (.slice (some ⟨w.heap.size, 0, none⟩) (len + k) (len + 80)) (len + k) ((bs ++ marks k).map (Value.int .u8)) ∧ Below w.heap.size w wr) (fun _ i _ => 80 - (intOf i).toNat)
  case atStart => exact ⟨0, by omega, rfl, by simp, by simpa [marks] using hown1, hw⟩
  case round =>
    obtain ⟨k, hk, rfl, rfl, hown, hw⟩ := hrel
    by_cases hlt : k < 80
    · have hd : decide ((k : Int) < 80) = true := by simp; omega
      have hown' : (wr.alloc (.cells #[.int .u8 (171 + (k : Int) % 60)] 5)).ownsRow w.heap.size 5 1 (.slice (some ⟨w.heap.size, 0, none⟩) (len + k) (len + 80)) (len + k) ((bs ++ marks k).map (Value.int .u8)) := hown.kept (World.grownBy_alloc wr _ none) (.inr (by simp [Value.ownBlock]))
      have hnew : ∀ ad, some (⟨wr.heap.size, 0, none⟩ : Addr) = some ad → ∀ j u, [Value.int .u8 (171 + (k : Int) % 60)][j]? = some u → (wr.alloc (.cells #[.int .u8 (171 + (k : Int) % 60)] 5)).cell? (ad.add j) = some u := by
        intro ad had j u hu
        obtain rfl := Option.some.inj had
        have hj : j = 0 := by
          have := (List.getElem?_eq_some_iff.1 hu).1
          simp at this
          exact this
        subst hj
        simp at hu
        subst hu
        rw [addr_add]
        have hg : (wr.alloc (.cells #[.int .u8 (171 + (k : Int) % 60)] 5)).heap[wr.heap.size]? = some (.cells #[.int .u8 (171 + (k : Int) % 60)] 5 (0, 0)) := hp1_0 wr _
        simp only [World.cell?, hg]
        rfl
      go_wp2_with (at_builtin; refine wpList_append_fits_any _ rfl (.tmp 17) (.tmp 22) 22 rfl w.heap.size 5 i0 1 Tryd.underlying22 hi hz1 w.heap.size (len + k) (len + 80) _ rfl hown' (some ⟨wr.heap.size, 0, none⟩) 1 1 [.int .u8 (171 + (k : Int) % 60)] rfl rfl (by intro h; cases h) hnew (by simp [Value.oneCell']) (by omega) ?_)
      intro w2 hown2 hgrow2
      have hw2 : Below w.heap.size w w2 := (hw.alloc hw.size _).grown hgrow2 (by simp; have := hw.size; omega) (fun k h => by cases h; exact Nat.le_refl _)
      replace hown2 : w2.ownsRow w.heap.size 5 1 (.slice (some ⟨w.heap.size, 0, none⟩) (len + (k + 1)) (len + 80)) (len + (k + 1)) ((bs ++ marks (k + 1)).map (Value.int .u8)) := by rw [marks_succ, ← Nat.add_assoc]; simpa using hown2
      clear hown hown' hnew hgrow2 hw
      go_wp2
      go_roundw
      case rel => exact ⟨k + 1, by omega, by go_num, rfl, hown2, hw2⟩
      case measure => simp [intOf]; omega
    · obtain rfl : k = 80 := by omega
      have hd : decide ((80 : Int) < 80) = false := by decide
      have hrow : wr.heap[w.heap.size]? = some (.cells (irow .u8 (bs ++ marks 80)) 5 (0, 0)) := by
        obtain ⟨hlx, h | ⟨g, cp, cur, hv, _, hg, _, _, hs, ht⟩⟩ := hown
        · cases h.1
        · cases hv
          rw [hg]
          have : cur = irow .u8 (bs ++ marks 80) := by
            apply Array.ext'
            rw [irow, ← ht]
            symm
            apply List.take_of_length_le
            rw [Array.length_toList]
            omega
          rw [this]
      clear hown
      go_wp2
      go_ret2
      exact ⟨_, rfl, _, rfl, Nat.le_refl _, hrow, hw⟩
set_option maxHeartbeats 2000000 in
theorem l_kept21 (bs : List Int) (g : Nat) (w : World) (ev : Value) (hB : Bys w ev bs) (hl : bs.length + 80 ≤ 281474976710656) (hg : w.heap[g]? = some (.cells (irow .u8 (bs ++ marks 80)) 5 (0, 0))) : Calls Tryd.prog 14 #[.slice (some ⟨g, 0, none⟩) (bs.length + 80) (bs.length + 80), ev] w fun e w' => e = .returned (.bool true) ∧ Below w.heap.size w w' := by
  obtain ⟨ao, cap, rfl, _, hc, hz⟩ := hB
  have hall : ∀ k, k < bs.length + 80 → w.cell? ⟨g, k, none⟩ = some (.int .u8 ((bs ++ marks 80).getD k 0)) := fun k hk => irow_cell hg (by simp [marks]; omega)
  have hgs := lt_of_row hg
  have hlow := at_low bs
  have hhigh := at_high bs
  generalize hlen : bs.length = len at *
  go_enter Tryd.func14, Tryd.ntmps14
  go_wp2
  go_loopw [5] (fun i wr => ∃ k : Nat, k ≤ len + 80 ∧ i = .int .i64 k ∧ Below w.heap.size w wr) (fun i _ => len + 80 - (intOf i).toNat)
  case atStart => exact ⟨0, by omega, rfl, Below.refl _ _⟩
  case round =>
    obtain ⟨k, hk, rfl, hw⟩ := hrel
    by_cases hlt : k < len + 80
    · have hd : decide ((k : Int) < (len : Int) + 80) = true := by simp; omega
      have h1 := (hw.cell (p := ⟨g, k, none⟩) hgs).trans (hall k hlt)
      by_cases hin : k < len
      · obtain ⟨b, off, rfl, hb1, hb2⟩ := hc k hin
        replace hb2 := (hw.cell (p := ⟨b, off + k, none⟩) hb1).trans hb2
        rw [hlow k hin] at h1
        have hd2 : decide ((k : Int) < (len : Int)) = true := by simp; omega
        have hd3 : decide (len ≤ k) = false := decide_eq_false (by omega)
        generalize bs.getD k 0 = z at *
        have k1 : ∀ p : Regrown, (grow (redrawn wr p.d) p.os).cell? ⟨g, k, none⟩ = some (.int .u8 z) := fun p => cell_regrown h1 p.d p.os
        have k2 : ∀ p : Regrown, (grow (redrawn wr p.d) p.os).cell? ⟨b, off + k, none⟩ = some (.int .u8 z) := fun p => cell_regrown hb2 p.d p.os
        clear h1 hb2 hall hc hlow hhigh
        go_wp2
        refine wp_region_quiet_below (by kernel_rfl) (by kernel_rfl) ?_
        go_big_quiet_step (fail)
        go_big_quiet_step (fail)
        go_big_quiet_step (fail)
        go_big_quiet_step (fail)
        go_big_quiet_step (fail)
        go_big_quiet_step (fail)
        go_big_quiet_step (fail)
        go_big_quiet_step (fail)
        go_big_quiet_step (fail)
        go_big_quiet_step (fail)
        go_big_quiet_step (fail)
        go_big_quiet_step (fail)
        go_big_quiet_step (fail)
        go_big_quiet_step (fail)
        go_big_quiet_step (fail)
        go_big_quiet_step (fail)
        go_big_quiet_step (fail)
        go_big_quiet_step (fail)
        go_big_quiet_step (fail)
        go_big_quiet_step (fail)
        go_big_quiet_step (fail)
        go_big_quiet_step (fail)
        go_big_quiet_step (fail)
        go_big_quiet_step (fail)
        go_big_quiet_step (fail)
        go_big_quiet_step (fail)
        go_big_quiet_step (fail)
        go_big_quiet_step (fail)
        go_big_quiet_step (fail)
        go_big_quiet_step (fail)
        go_big_quiet_step (fail)
        go_big_quiet_step (fail)
        go_big_quiet_step (fail)
        go_big_quiet_step (fail)
        go_big_quiet_step (fail)
        refine wpQuiet_nil ?_
        rintro _ ⟨p, rfl⟩
        have hb := below_regrown wr p.d p.os
        clear k1 k2
        generalize grow (redrawn wr p.d) p.os = w2 at *
        replace hw := Below.after hw hb
        clear hb
        go_wp2
        go_roundw
        case rel => exact ⟨k + 1, by omega, by go_num, hw⟩
        case measure => simp [intOf]; omega
      · rw [hhigh k hin hlt] at h1
        have hd2 : decide ((k : Int) < (len : Int)) = false := by simp; omega
        have hd3 : decide (len ≤ k) = true := decide_eq_true (by omega)
        have k1 : ∀ p : Regrown, (grow (redrawn wr p.d) p.os).cell? ⟨g, k, none⟩ = some (.int .u8 (171 + ((k : Int) - len) % 60)) := fun p => cell_regrown h1 p.d p.os
        clear h1 hall hc hlow hhigh
        go_wp2
        refine wp_region_quiet_below (by kernel_rfl) (by kernel_rfl) ?_
        go_big_quiet_step (fail)
        go_big_quiet_step (fail)
        go_big_quiet_step (fail)
        go_big_quiet_step (fail)
        go_big_quiet_step (fail)
        go_big_quiet_step (fail)
        go_big_quiet_step (fail)
        go_big_quiet_step (fail)
        go_big_quiet_step (fail)
        go_big_quiet_step (fail)
        go_big_quiet_step (fail)
        go_big_quiet_step (fail)
        go_big_quiet_step (fail)
        go_big_quiet_step (fail)
        go_big_quiet_step (fail)
        go_big_quiet_step (fail)
        go_big_quiet_step (fail)
        go_big_quiet_step (fail)
        go_big_quiet_step (fail)
        go_big_quiet_step (fail)
        go_big_quiet_step (fail)
        go_big_quiet_step (fail)
        go_big_quiet_step (fail)
        go_big_quiet_step (fail)
        go_big_quiet_step (fail)
        go_big_quiet_step (fail)
        go_big_quiet_step (fail)
        go_big_quiet_step (fail)
        go_big_quiet_step (fail)
        go_big_quiet_step (fail)
        go_big_quiet_step (fail)
        go_big_quiet_step (fail)
        go_big_quiet_step (fail)
        go_big_quiet_step (fail)
        go_big_quiet_step (fail)
        refine wpQuiet_nil ?_
        rintro _ ⟨p, rfl⟩
        have hb := below_regrown wr p.d p.os
        clear k1
        generalize grow (redrawn wr p.d) p.os = w2 at *
        replace hw := Below.after hw hb
        clear hb
        go_wp2
        go_roundw
        case rel => exact ⟨k + 1, by omega, by go_num, hw⟩
        case measure => simp [intOf]; omega
    · obtain rfl : k = len + 80 := by omega
      have hd : decide (((len + 80 : Nat) : Int) < (len : Int) + 80) = false := by simp
      go_wp2
      go_ret
      exact ⟨rfl, hw⟩
theorem eqKs (l : List Int) (hl : l.length = 32) (W : World) : (Op.equalIn 10000 24 (.agg (irow .u8 l)) (.agg (irow .u8 l))).run Tryd.prog W = .ok true W := by
  rw [eqK _ _ hl hl]; simp
set_option maxRecDepth 100000 in
set_option maxHeartbeats 8000000 in
theorem l_keys (ks : List (List Int)) (w : World) (v1 v2 : Value) (h1 : Ksl w v1 ks) (h2 : Ksl w v2 ks) : Calls Tryd.prog 27 #[v1, v2] w fun e w' => e = .returned (.bool true) ∧ Below w.heap.size w w' := by
  obtain ⟨a1, c1, e1, _, _⟩ := h1.slc
  obtain ⟨a2, c2, e2, _, _⟩ := h2.slc
  have hle := h1.le
  have hok := h1.ok
  subst e1 e2
  go_enter Tryd.func27, Tryd.ntmps27
  go_wp2_with (fail)
  go_loopw [5] (fun i wr => ∃ k : Nat, k ≤ ks.length ∧ i = .int .i64 k ∧ Below w.heap.size w wr) (fun i _ => ks.length - (intOf i).toNat)
  case atStart => exact ⟨0, by omega, rfl, Below.refl _ _⟩
  case round =>
    obtain ⟨k, hk, rfl, hw⟩ := hrel
    by_cases hlt : k < ks.length
    · have hd : decide ((k : Int) < (ks.length : Int)) = true := by simp; omega
      obtain ⟨_, _, e, _, _, _, _, p1⟩ := h1.keep hw
      cases e
      obtain ⟨_, _, e, _, _, _, _, p2⟩ := h2.keep hw
      cases e
      obtain ⟨g1, o1, cur1, t1, f1, rfl, r1, x1⟩ := p1 k hlt
      obtain ⟨g2, o2, cur2, t2, f2, rfl, r2, x2⟩ := p2 k hlt
      have hX := (hok.at hlt).1
      have eX := eqKs _ hX
      generalize ks.getD k [] = X at *
      clear h1 h2 p1 p2 hok
      generalize ks.length = L at *
      go_wp2_with (fail)
      refine wp_region_noPanic ?_
      refine wp_region_held (S := fun W_ => W_.heap[g1]? = some (.cells cur1 t1 f1) ∧ W_.heap[g2]? = some (.cells cur2 t2 f2)) (by kernel_rfl) ?_
      change wpAnyH _ _ _ _ _ _ _ _ (World.drew _)
      have hb : Below wr.heap.size wr wr.drew := below_drN (Below.refl _ _) 1
      replace r1 := keep hb r1
      replace r2 := keep hb r2
      replace hw := Below.after hw hb
      clear hb
      generalize wr.drew = w5 at *
      refine wpAnyH_take (i := 0) (v := ?v9) rfl (by kernel_rfl) (by kernel_rfl) (by kernel_rfl) (fun _ _ _ h => h) (Or.inl ⟨by rfl, ?y9⟩) (⟨r1, r2⟩) ?r9
      case y9 =>
        intro w_ hS_
        go_simp
        try with_reducible rfl
      simp only [Act.put, List.getElem_toArray, List.getElem_cons_zero, List.setIfInBounds_toArray, List.set_cons_succ, List.set_cons_zero]
      refine wpAnyH_take (i := 1) (v := ?v10) rfl (by kernel_rfl) (by kernel_rfl) (by kernel_rfl) (fun _ _ _ h => h) (Or.inl ⟨by rfl, ?y10⟩) (⟨r1, r2⟩) ?r10
      case y10 =>
        intro w_ hS_
        go_simp
        try with_reducible rfl
      simp only [Act.put, List.getElem_toArray, List.getElem_cons_succ, List.getElem_cons_zero, List.setIfInBounds_toArray, List.set_cons_succ, List.set_cons_zero]
      refine wpAnyH_take (i := 2) (v := ?v11) rfl (by kernel_rfl) (by kernel_rfl) (by kernel_rfl) (fun _ _ _ h => h) (Or.inl ⟨by rfl, ?y11⟩) (⟨r1, r2⟩) ?r11
      case y11 =>
        intro w_ hS_
        go_simp
        try with_reducible rfl
      simp only [Act.put, List.getElem_toArray, List.getElem_cons_succ, List.getElem_cons_zero, List.setIfInBounds_toArray, List.set_cons_succ, List.set_cons_zero]
      refine wpAnyH_take (i := 3) (v := .agg (irow .u8 X)) rfl (by kernel_rfl) (by kernel_rfl) (by kernel_rfl) (fun _ _ _ h => h) (Or.inl ⟨by rfl, ?y12⟩) (⟨r1, r2⟩) ?r12
      case y12 =>
        intro w_ hS_
        simp only [List.getElem_toArray, List.getElem_cons_succ, List.getElem_cons_zero]
        exact e_load_part 24 _ (by rfl) g1 (o1 + k * 32) (by rfl) t1 cur1 f1 (irow .u8 X) _ hS_.1 x1 Tryd.underlying24 rfl (infok8 _ hX)
      simp only [Act.put, List.getElem_toArray, List.getElem_cons_succ, List.getElem_cons_zero, List.setIfInBounds_toArray, List.set_cons_succ, List.set_cons_zero]
      refine wpAnyH_take (i := 4) (v := ?v13) rfl (by kernel_rfl) (by kernel_rfl) (by kernel_rfl) (fun _ _ _ h => h) (Or.inl ⟨by rfl, ?y13⟩) (⟨r1, r2⟩) ?r13
      case y13 =>
        intro w_ hS_
        go_simp
        try with_reducible rfl
      simp only [Act.put, List.getElem_toArray, List.getElem_cons_succ, List.getElem_cons_zero, List.setIfInBounds_toArray, List.set_cons_succ, List.set_cons_zero]
      refine wpAnyH_take (i := 5) (v := ?v14) rfl (by kernel_rfl) (by kernel_rfl) (by kernel_rfl) (fun _ _ _ h => h) (Or.inl ⟨by rfl, ?y14⟩) (⟨r1, r2⟩) ?r14
      case y14 =>
        intro w_ hS_
        go_simp
        try with_reducible rfl
      simp only [Act.put, List.getElem_toArray, List.getElem_cons_succ, List.getElem_cons_zero, List.setIfInBounds_toArray, List.set_cons_succ, List.set_cons_zero]
      refine wpAnyH_take (i := 6) (v := ?v15) rfl (by kernel_rfl) (by kernel_rfl) (by kernel_rfl) (fun _ _ _ h => h) (Or.inl ⟨by rfl, ?y15⟩) (⟨r1, r2⟩) ?r15
      case y15 =>
        intro w_ hS_
        go_simp
        try with_reducible rfl
      simp only [Act.put, List.getElem_toArray, List.getElem_cons_succ, List.getElem_cons_zero, List.setIfInBounds_toArray, List.set_cons_succ, List.set_cons_zero]
      refine wpAnyH_take (i := 7) (v := .agg (irow .u8 X)) rfl (by kernel_rfl) (by kernel_rfl) (by kernel_rfl) (fun _ _ _ h => h) (Or.inl ⟨by rfl, ?y16⟩) (⟨r1, r2⟩) ?r16
      case y16 =>
        intro w_ hS_
        simp only [List.getElem_toArray, List.getElem_cons_succ, List.getElem_cons_zero]
        exact e_load_part 24 _ (by rfl) g2 (o2 + k * 32) (by rfl) t2 cur2 f2 (irow .u8 X) _ hS_.2 x2 Tryd.underlying24 rfl (infok8 _ hX)
      simp only [Act.put, List.getElem_toArray, List.getElem_cons_succ, List.getElem_cons_zero, List.setIfInBounds_toArray, List.set_cons_succ, List.set_cons_zero]
      refine wpAnyH_take (i := 8) (v := ?v17) rfl (by kernel_rfl) (by kernel_rfl) (by kernel_rfl) (fun _ _ _ h => h) (Or.inl ⟨by rfl, ?y17⟩) (⟨r1, r2⟩) ?r17
      case y17 =>
        intro w_ hS_
        go_simp
        try with_reducible rfl
      simp only [Act.put, List.getElem_toArray, List.getElem_cons_succ, List.getElem_cons_zero, List.setIfInBounds_toArray, List.set_cons_succ, List.set_cons_zero]
      refine wpAnyH_done (by kernel_rfl) ?_ _
      refine NoPanic.normal ?_
      go_wp2_with (fail)
      refine ⟨⟨k + 1, by omega, by go_num, hw⟩, ?_⟩
      simp [intOf]; omega
    · obtain rfl : k = ks.length := by omega
      have hd : decide ((ks.length : Int) < (ks.length : Int)) = false := by simp
      go_wp2_with (fail)
      go_ret
      exact ⟨rfl, hw⟩
theorem wpList_append_Ks {w : World} {ops : Array Oper} {rest : List Oper} {o : Oper} {a : Act} {Q : Exit → Act → World → Prop} (hgd : o.guard = none) (s x : Operand) (ho : o.op = .call { callee := .builtin .append, args := #[s, x], argTypes := #[31, 31] })
    (base : Nat) (v : Value) (ks : List (List Int)) (hs : a.eval s = v) (hI : OwnK w base v ks) (u : Value) (ms : List (List Int)) (hx : a.eval x = u) (hM : Ksl w u ms) (hlen : ks.length + ms.length ≤ 4398046511000) (hbase : base ≤ w.heap.size)
    (h : ∀ v' w', OwnK w' base v' (ks ++ ms) → w.grownBy w' v.ownBlock → Nx w v v' → wpList Tryd.prog ops Q rest (a.put o.dst v') w') : wpList Tryd.prog ops Q (o :: rest) a w :=
  wpList_plain hgd fun _ hK => wp_append_Ks s x ho base v ks hs hI u ms hx hM hlen hbase (fun v' w' h1 h2 h3 => hK _ _ (h v' w' h1 h2 h3))
/-- The marks behind a loan. -/
def mks : List (List Int) := [(201 :: zr 31), (202 :: zr 31), (203 :: zr 31), (204 :: zr 31)]
theorem mk_0 : Tryd.prog.built 24 [(0, .int .u8 201)] = some (irow .u8 (201 :: zr 31)) := by kernel_rfl
theorem mkl_0 : (201 :: zr 31).length = 32 := rfl
theorem mkb_0 : ∀ z ∈ (201 :: zr 31), 0 ≤ z ∧ z < 256 := by decide
theorem mk_1 : Tryd.prog.built 24 [(0, .int .u8 202)] = some (irow .u8 (202 :: zr 31)) := by kernel_rfl
theorem mkl_1 : (202 :: zr 31).length = 32 := rfl
theorem mkb_1 : ∀ z ∈ (202 :: zr 31), 0 ≤ z ∧ z < 256 := by decide
theorem mk_2 : Tryd.prog.built 24 [(0, .int .u8 203)] = some (irow .u8 (203 :: zr 31)) := by kernel_rfl
theorem mkl_2 : (203 :: zr 31).length = 32 := rfl
theorem mkb_2 : ∀ z ∈ (203 :: zr 31), 0 ≤ z ∧ z < 256 := by decide
theorem mk_3 : Tryd.prog.built 24 [(0, .int .u8 204)] = some (irow .u8 (204 :: zr 31)) := by kernel_rfl
theorem mkl_3 : (204 :: zr 31).length = 32 := rfl
theorem mkb_3 : ∀ z ∈ (204 :: zr 31), 0 ≤ z ∧ z < 256 := by decide
theorem mks_ok : Kok mks := by
  intro k hk
  simp only [mks, List.mem_cons, List.not_mem_nil, or_false] at hk
  rcases hk with rfl | rfl | rfl | rfl
  · exact ⟨mkl_0, mkb_0⟩
  · exact ⟨mkl_1, mkb_1⟩
  · exact ⟨mkl_2, mkb_2⟩
  · exact ⟨mkl_3, mkb_3⟩
set_option maxRecDepth 100000 in
set_option maxHeartbeats 8000000 in
theorem l_loan (l : List (List Int)) (w : World) (v : Value) (hL : Ksl w v l) (hb4 : l.length ≤ 4398046510990) : Calls Tryd.prog 17 #[v] w fun e w' => ∃ ao cap, e = .returned (.tuple #[.slice ao l.length cap, .slice ao (l.length + 4) cap]) ∧ OwnK w' w.heap.size (.slice ao (l.length + 4) cap) (l ++ mks) ∧ Below w.heap.size w w' := by
  obtain ⟨ao, cap, rfl, hc, hz⟩ := hL.slc
  have hle := hL.le
  have hO : OwnK (w.alloc (.cells #[] 24)) w.heap.size (.slice (some ⟨w.heap.size, 0, none⟩) 0 0) [] := OwnK.empty w (Nat.le_refl _)
  have hw : Below w.heap.size w (w.alloc (.cells #[] 24)) := (Below.refl _ _).alloc (Nat.le_refl _) _
  replace hL := hL.keep hw
  go_enter Tryd.func17, Tryd.ntmps17
  go_wp2_with (at_builtin; refine wpList_append_Ks rfl (.tmp 6) (.tmp 7) rfl w.heap.size _ [] rfl hO _ l rfl hL (by simp only [List.length_nil]; omega) hw.size ?_)
  intro v1 w1 hO_ hgr _
  replace hw := hw.grown hgr hw.size (fun k e => (hO.lt k e).1)
  clear hO
  have hO : OwnK w1 w.heap.size v1 l := hO_
  clear hO_ hgr
  go_wp2_with (fail)
  refine wp_loop_rounds 5 ?_
  rw [rounds_succ]
  have rg0 := hp1_0 w1 (.cells (irow .u8 (201 :: zr 31)) 24)
  have hb0 : Below w1.heap.size w1 (w1.alloc (.cells (irow .u8 (201 :: zr 31)) 24)) := (Below.refl _ _).alloc (Nat.le_refl _) _
  replace hO := hO.keep hb0
  replace hw := Below.after hw hb0
  go_wp2_with (first | (refine wpList_build_as rfl 24 _ rfl [(0, .int .u8 201)] rfl _ mk_0 ?_) | (refine wpList_bslK rfl _ rfl (201 :: zr 31) mkl_0 rfl ?_) | (at_builtin; refine wpList_append_K rfl (.tmp 13) (.tmp 18) rfl w.heap.size _ (l) rfl hO w1.heap.size (201 :: zr 31) mkl_0 rfl rg0 (by omega) hw.size ?_))
  intro v2 w2 hO_ hgr _
  replace hw := hw.grown hgr hw.size (fun k e => (hO.lt k e).1)
  clear hO
  have hO : OwnK w2 w.heap.size v2 (l ++ [(201 :: zr 31)]) := by first | exact hO_ | (rw [List.append_assoc] at hO_; exact hO_)
  clear hO_ hgr rg0 hb0
  go_wp2_with (fail)
  rw [rounds_succ]
  have rg1 := hp1_0 w2 (.cells (irow .u8 (202 :: zr 31)) 24)
  have hb1 : Below w2.heap.size w2 (w2.alloc (.cells (irow .u8 (202 :: zr 31)) 24)) := (Below.refl _ _).alloc (Nat.le_refl _) _
  replace hO := hO.keep hb1
  replace hw := Below.after hw hb1
  go_wp2_with (first | (refine wpList_build_as rfl 24 _ rfl [(0, .int .u8 202)] rfl _ mk_1 ?_) | (refine wpList_bslK rfl _ rfl (202 :: zr 31) mkl_1 rfl ?_) | (at_builtin; refine wpList_append_K rfl (.tmp 13) (.tmp 18) rfl w.heap.size _ (l ++ [(201 :: zr 31)]) rfl hO w2.heap.size (202 :: zr 31) mkl_1 rfl rg1 (by simp; omega) hw.size ?_))
  intro v3 w3 hO_ hgr _
  replace hw := hw.grown hgr hw.size (fun k e => (hO.lt k e).1)
  clear hO
  have hO : OwnK w3 w.heap.size v3 (l ++ [(201 :: zr 31), (202 :: zr 31)]) := by first | exact hO_ | (rw [List.append_assoc] at hO_; exact hO_)
  clear hO_ hgr rg1 hb1
  go_wp2_with (fail)
  rw [rounds_succ]
  have rg2 := hp1_0 w3 (.cells (irow .u8 (203 :: zr 31)) 24)
  have hb2 : Below w3.heap.size w3 (w3.alloc (.cells (irow .u8 (203 :: zr 31)) 24)) := (Below.refl _ _).alloc (Nat.le_refl _) _
  replace hO := hO.keep hb2
  replace hw := Below.after hw hb2
  go_wp2_with (first | (refine wpList_build_as rfl 24 _ rfl [(0, .int .u8 203)] rfl _ mk_2 ?_) | (refine wpList_bslK rfl _ rfl (203 :: zr 31) mkl_2 rfl ?_) | (at_builtin; refine wpList_append_K rfl (.tmp 13) (.tmp 18) rfl w.heap.size _ (l ++ [(201 :: zr 31), (202 :: zr 31)]) rfl hO w3.heap.size (203 :: zr 31) mkl_2 rfl rg2 (by simp; omega) hw.size ?_))
  intro v4 w4 hO_ hgr _
  replace hw := hw.grown hgr hw.size (fun k e => (hO.lt k e).1)
  clear hO
  have hO : OwnK w4 w.heap.size v4 (l ++ [(201 :: zr 31), (202 :: zr 31), (203 :: zr 31)]) := by first | exact hO_ | (rw [List.append_assoc] at hO_; exact hO_)
  clear hO_ hgr rg2 hb2
  go_wp2_with (fail)
  rw [rounds_succ]
  have rg3 := hp1_0 w4 (.cells (irow .u8 (204 :: zr 31)) 24)
  have hb3 : Below w4.heap.size w4 (w4.alloc (.cells (irow .u8 (204 :: zr 31)) 24)) := (Below.refl _ _).alloc (Nat.le_refl _) _
  replace hO := hO.keep hb3
  replace hw := Below.after hw hb3
  go_wp2_with (first | (refine wpList_build_as rfl 24 _ rfl [(0, .int .u8 204)] rfl _ mk_3 ?_) | (refine wpList_bslK rfl _ rfl (204 :: zr 31) mkl_3 rfl ?_) | (at_builtin; refine wpList_append_K rfl (.tmp 13) (.tmp 18) rfl w.heap.size _ (l ++ [(201 :: zr 31), (202 :: zr 31), (203 :: zr 31)]) rfl hO w4.heap.size (204 :: zr 31) mkl_3 rfl rg3 (by simp; omega) hw.size ?_))
  intro v5 w5 hO_ hgr _
  replace hw := hw.grown hgr hw.size (fun k e => (hO.lt k e).1)
  clear hO
  have hO : OwnK w5 w.heap.size v5 (l ++ [(201 :: zr 31), (202 :: zr 31), (203 :: zr 31), (204 :: zr 31)]) := by first | exact hO_ | (rw [List.append_assoc] at hO_; exact hO_)
  clear hO_ hgr rg3 hb3
  go_wp2_with (fail)
  rw [rounds_succ]
  have hO : OwnK w5 w.heap.size v5 (l ++ mks) := hO
  obtain ⟨ao5, cap5, e5, hc5, hz5⟩ := hO.slc
  have el : (l ++ mks).length = l.length + 4 := by simp [mks]
  rw [el] at e5 hc5
  subst e5
  have s1 := slk_head ao5 (l.length + 4) cap5 l.length (by omega) hz5
  go_wp2_with (fail)
  exact bodyPost_ret (results_tmp2 Tryd.results17 _ _ _) rfl ⟨ao5, cap5, rfl, hO, hw⟩

set_option maxRecDepth 100000 in
set_option maxHeartbeats 8000000 in
theorem l_whole (l : List (List Int)) (w : World) (b : Nat) (v : Value) (ao : Option Addr) (cap : Nat) (hO : OwnK w b (.slice ao (l.length + 4) cap) (l ++ mks)) (hL : Ksl w v l) (hb4 : l.length ≤ 4398046510990) : Calls Tryd.prog 20 #[.slice ao (l.length + 4) cap, v] w fun e w' => e = .returned (.bool true) ∧ Below w.heap.size w w' := by
  obtain ⟨bo, bc, rfl, _, _⟩ := hL.slc
  have hle := hL.le
  have el : (l ++ mks).length = l.length + 4 := by simp [mks]
  have hok : Kok (l ++ mks) := hL.ok.app mks_ok
  have hA := hO.ksl hok (by omega)
  have s1 := slk_head ao (l.length + 4) cap l.length (by obtain ⟨_, _, e, h, _⟩ := hO.slc; injection e with e1 e2 e3; omega) (by obtain ⟨_, _, e, _, h⟩ := hO.slc; injection e with e1 e2 e3; rw [e1, e3]; exact h)
  obtain ⟨_, _, e, _, _, _, _, hp⟩ := id hA
  injection e with e1 e2 e3
  subst e1 e3
  clear e2
  obtain ⟨g0, o0, cs0, t0, f0, e0, q0, x0⟩ := hp (l.length + 0) (by omega)
  have y0 : (l ++ mks).getD (l.length + 0) [] = (201 :: zr 31) := by rw [List.getD_eq_getElem?_getD, List.getElem?_append_right (by omega), show l.length + 0 - l.length = 0 by omega]; rfl
  rw [y0] at x0
  have eq0 := eqKs _ mkl_0
  obtain ⟨g1, o1, cs1, t1, f1, e1, q1, x1⟩ := hp (l.length + 1) (by omega)
  have y1 : (l ++ mks).getD (l.length + 1) [] = (202 :: zr 31) := by rw [List.getD_eq_getElem?_getD, List.getElem?_append_right (by omega), show l.length + 1 - l.length = 1 by omega]; rfl
  rw [y1] at x1
  have eq1 := eqKs _ mkl_1
  obtain ⟨g2, o2, cs2, t2, f2, e2, q2, x2⟩ := hp (l.length + 2) (by omega)
  have y2 : (l ++ mks).getD (l.length + 2) [] = (203 :: zr 31) := by rw [List.getD_eq_getElem?_getD, List.getElem?_append_right (by omega), show l.length + 2 - l.length = 2 by omega]; rfl
  rw [y2] at x2
  have eq2 := eqKs _ mkl_2
  obtain ⟨g3, o3, cs3, t3, f3, e3, q3, x3⟩ := hp (l.length + 3) (by omega)
  have y3 : (l ++ mks).getD (l.length + 3) [] = (204 :: zr 31) := by rw [List.getD_eq_getElem?_getD, List.getElem?_append_right (by omega), show l.length + 3 - l.length = 3 by omega]; rfl
  rw [y3] at x3
  have eq3 := eqKs _ mkl_3
  subst e0
  cases e1
  cases e2
  cases e3
  clear hp y0 y1 y2 y3
  rw [Nat.add_zero] at x0
  have hH := hA.head (k := l.length) (by omega)
  rw [List.take_left] at hH
  clear hA hO hok el
  generalize hln : l.length = L at *
  have hln' := hide hln
  clear hln
  have j1 : IntKind.i64.wrap ((L : Int) + 1) = (L : Int) + 1 := by rw [IntKind.wrap_i64]; omega
  have j2 : IntKind.i64.wrap ((L : Int) + 2) = (L : Int) + 2 := by rw [IntKind.wrap_i64]; omega
  have j3 : IntKind.i64.wrap ((L : Int) + 3) = (L : Int) + 3 := by rw [IntKind.wrap_i64]; omega
  go_enter Tryd.func20, Tryd.ntmps20
  go_wp2_with (fail)
  refine wp_loop_rounds 5 ?_
  rw [rounds_succ]
  go_wp2_with (first | (refine wpList_load_part rfl 24 _ rfl g0 (o0 + L * 32) rfl t0 cs0 f0 (irow .u8 (201 :: zr 31)) _ q0 x0 Tryd.underlying24 rfl (infok8 _ mkl_0) ?_) | (refine wpList_build_as rfl 24 _ rfl [(0, .int .u8 201)] rfl _ mk_0 ?_))
  rw [rounds_succ]
  go_wp2_with (first | (refine wpList_load_part rfl 24 _ rfl g0 (o0 + (L + 1) * 32) rfl t1 cs1 f1 (irow .u8 (202 :: zr 31)) _ q1 x1 Tryd.underlying24 rfl (infok8 _ mkl_1) ?_) | (refine wpList_build_as rfl 24 _ rfl [(0, .int .u8 202)] rfl _ mk_1 ?_))
  rw [rounds_succ]
  go_wp2_with (first | (refine wpList_load_part rfl 24 _ rfl g0 (o0 + (L + 2) * 32) rfl t2 cs2 f2 (irow .u8 (203 :: zr 31)) _ q2 x2 Tryd.underlying24 rfl (infok8 _ mkl_2) ?_) | (refine wpList_build_as rfl 24 _ rfl [(0, .int .u8 203)] rfl _ mk_2 ?_))
  rw [rounds_succ]
  go_wp2_with (first | (refine wpList_load_part rfl 24 _ rfl g0 (o0 + (L + 3) * 32) rfl t3 cs3 f3 (irow .u8 (204 :: zr 31)) _ q3 x3 Tryd.underlying24 rfl (infok8 _ mkl_3) ?_) | (refine wpList_build_as rfl 24 _ rfl [(0, .int .u8 204)] rfl _ mk_3 ?_))
  rw [rounds_succ]
  go_wp2_with (fail)
  refine (l_keys l _ _ _ hH hL).mono ?_
  rintro e_ w1 ⟨rfl, hb⟩
  go_wp2_with (fail)
  go_ret
  exact ⟨rfl, hb⟩

end Go.Proofs.YtgfeacnhdlgpoaaDoor
