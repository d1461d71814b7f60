import Derived.Test.YtlglalhddeldbaaProg
import Derived.WalkKit
import Derived.WalkSpells
import Derived.WalkLawsBesides
import Derived.Lib.QuietBelow
import Derived.Laws.BitsAllLaws
import Derived.BigQuiet
import Derived.WalkMore
import Derived.Test.YtlglalhddeldbaaKit
import Derived.Test.YtlglalhddeldbaaWg
namespace Go.Proofs.Ytlglalhddeldbaa
open Go Go.RowKit Go.Sort
attribute [local go_sem] setCell_drewN alloc_drewN

theorem wrap_sub (a b : Nat) : ((a + b : Nat) : Int) - (a : Int) = (b : Int) := by omega
theorem gb_left (a b : List B) (j : Nat) (h : j < a.length) : gb (a ++ b) j = gb a j := by
  rw [gb, gb, List.getD_eq_getElem?_getD, List.getElem?_append_left h, ← List.getD_eq_getElem?_getD]
/-- A form that agrees with another one as far as both go, and is not longer, is it. -/
theorem en_begins {n m : Nat} (hn : n < 18446744073709551616) (hm : m < 18446744073709551616) : ((en n).length ≤ (en m).length ∧ ∀ j, j < (en n).length → j < (en m).length → gb (en n) j = gb (en m) j) ↔ n = m := by
  constructor
  · rintro ⟨h1, h2⟩
    have e : (en m).take (en n).length = en n := by
      apply List.ext_getElem
      · rw [List.length_take]; omega
      · intro i hi hi2
        have := h2 i hi2 (by omega)
        rw [gb, gb, List.getD_eq_getElem?_getD, List.getElem?_eq_getElem hi2, List.getD_eq_getElem?_getD, List.getElem?_eq_getElem (by omega)] at this
        rw [List.getElem_take]
        exact this.symm
    have e2 : en n ++ (en m).drop (en n).length = en m ++ [] := by
      rw [List.append_nil]
      conv => lhs; lhs; rw [← e]
      exact List.take_append_drop _ _
    exact (en_inj hn hm e2).1
  · rintro rfl
    exact ⟨Nat.le_refl _, fun _ _ _ => rfl⟩
set_option maxRecDepth 100000 in
set_option maxHeartbeats 8000000 in
theorem back_any (n m : Nat) (hn : n < 18446744073709551616) (hm : m < 18446744073709551616) (bs : List B) (hl : bs.length ≤ 140737488351232) (W : World) (v : Value) (hB : BysB W v bs) : Calls Try.prog 5 #[.int .u64 (n : Int), .int .u64 (m : Int), v] W fun e w' => e = .returned (.bool true) ∧ Below W.heap.size W w' := by
  have hten := en_ten hn
  have hep := en_pos n
  have hnum : nres bs.length (rd 0 ((bs ++ en n).drop bs.length)) = .tuple #[.int .u64 (n : Int), .int .i64 ((bs ++ en n).length : Int), .int .i64 0] := by
    have h := rd0_en hn []
    rw [List.append_nil] at h
    rw [List.drop_left, h, nres, List.length_append]
  obtain ⟨ao, cap, rfl⟩ := hB.form
  have hb0 : Below W.heap.size W (W.alloc (.cells #[] 5)) := (Below.refl _ _).alloc (Nat.le_refl _) _
  go_enter Try.func5, Try.ntmps5
  go_wp2_with (at_builtin; refine wpList_append_B rfl (.tmp 16) (.tmp 17) rfl W.heap.size _ [] rfl (own_nil W) _ bs rfl (hB.keep hb0) (by simp only [List.length_nil]; omega) hb0.size ?_)
  intro v1 w1 hO1 hgr
  have hw := hb0.grown hgr hb0.size (own_low (own_nil W))
  clear hgr hb0
  have cX := a_put bs n hn w1 v1 (hO1.bysB (by omega))
  go_wp2_with (fail)
  refine cX.mono ?_
  rintro e_ w2 ⟨u, rfl, hu, hb⟩
  replace hw := Below.after hw hb
  clear hb cX
  have hLen : (bs ++ en n).length = bs.length + (en n).length := List.length_append
  generalize hL : bs ++ en n = L at *
  generalize hN : (en n).length = N at *
  have hgS := a_size n hn
  rw [hN] at hgS
  have dN : ((L.length : Int) - (bs.length : Int)) = (N : Int) := by omega
  have hz : Hid (∀ j, j < bs.length → gb L j = gb bs j) := hide (fun j hj => by rw [← hL, gb_left _ _ _ hj])
  replace hL := hide hL
  have hub := hu.bysB (by omega)
  have hLe : bs.length ≤ L.length := by omega
  replace hLen := hide hLen
  obtain ⟨uo, uc, rfl⟩ := slen_own hu
  have cX := a_number L bs.length (by omega) w2 _ hub
  rw [hnum] at cX
  clear hnum
  go_wp2_with (fail)
  refine cX.mono ?_
  rintro e_ w3 ⟨rfl, hb⟩
  replace hw := Below.after hw hb
  replace hu := hu.keep hb
  replace hub := hub.keep hb
  clear hb cX
  have cX := hgS w3
  go_wp2_with (fail)
  refine cX.mono ?_
  rintro e_ w4 ⟨rfl, hb⟩
  replace hw := Below.after hw hb
  replace hu := hu.keep hb
  replace hub := hub.keep hb
  clear hb cX
  have cX := hgS w4
  go_wp2_with (fail)
  refine cX.mono ?_
  rintro e_ w5 ⟨rfl, hb⟩
  replace hw := Below.after hw hb
  replace hu := hu.keep hb
  replace hub := hub.keep hb
  clear hb cX
  have cX := hgS w5
  go_wp2_with (fail)
  refine cX.mono ?_
  rintro e_ w6 ⟨rfl, hb⟩
  replace hw := Below.after hw hb
  replace hu := hu.keep hb
  replace hub := hub.keep hb
  clear hb cX
  clear hgS hu
  go_wp2_with (fail)
  go_loopw [11] (fun i wr => ∃ k : Nat, k ≤ bs.length ∧ i = .int .i64 k ∧ Below w6.heap.size w6 wr) (fun i _ => bs.length - (intOf i).toNat)
  case atStart => exact ⟨0, by omega, rfl, Below.refl _ _⟩
  case round =>
    obtain ⟨k, hk, rfl, hb⟩ := hrel
    by_cases hlt : k < bs.length
    · have hd : decide ((k : Int) < (bs.length : Int)) = true := by simp; omega
      obtain ⟨b, off, e1, hb1, hb2⟩ := hB.cellAt (j := k) hlt
      obtain ⟨b', off', e2, hb1', hb2'⟩ := hub.cellAt (j := k) (by omega)
      subst e1
      subst e2
      replace hb2 := ((Below.after hw hb).cell (p := ⟨b, off + k, none⟩) hb1).trans hb2
      replace hb2' := (hb.cell (p := ⟨b', off' + k, none⟩) hb1').trans hb2'
      rw [hz.out k hlt] at hb2'
      generalize gb bs k = z at *
      have hk1 : 0 ≤ (k : Int) ∧ (k : Int) < (bs.length : Int) := by omega
      have hk2 : 0 ≤ (k : Int) ∧ (k : Int) < (L.length : Int) := by omega
      clear hB hub
      go_wp2_with (fail)
      have k1 : ∀ p : Regrown, (grow (redrawn wr p.d) p.os).cell? ⟨b, off + k, none⟩ = some (.int .u8 (bv z)) := fun p => cell_regrown (hb2) p.d p.os
      have k2 : ∀ p : Regrown, (grow (redrawn wr p.d) p.os).cell? ⟨b', off' + k, none⟩ = some (.int .u8 (bv z)) := fun p => cell_regrown (hb2') p.d p.os
      refine wp_region_quiet_below (by kernel_rfl) (by kernel_rfl) ?_
      go_big_quiet_step (fail)
      go_big_quiet_step (fail)
      go_big_quiet_step (fail)
      go_big_quiet_step (fail)
      go_big_quiet_step (fail)
      go_big_quiet_step (fail)
      go_big_quiet_step (fail)
      go_big_quiet_step (fail)
      go_big_quiet_step (fail)
      refine wpQuiet_nil ?_
      rintro _ ⟨p, rfl⟩
      have hbb := below_regrown wr p.d p.os
      generalize grow (redrawn wr p.d) p.os = w9 at *
      clear k1 k2
      replace hb := Below.after hb hbb
      clear hbb
      go_wp2_with (fail)
      refine ⟨⟨k + 1, by omega, by go_num, hb⟩, ?_⟩
      simp [intOf]; omega
    · obtain rfl : k = bs.length := by omega
      have hd : decide ((bs.length : Int) < (bs.length : Int)) = false := by simp
      replace hw := Below.after hw hb
      clear hb hub
      have cX := a_put [] n hn wr _ (bys_nil wr)
      go_wp2_with (fail)
      refine cX.mono ?_
      rintro e_ w21 ⟨x, rfl, hx, hb⟩
      replace hw := Below.after hw hb
      clear hb cX
      have cX := a_put [] m hm w21 _ (bys_nil w21)
      go_wp2_with (fail)
      refine cX.mono ?_
      rintro e_ w22 ⟨y, rfl, hy, hb⟩
      replace hw := Below.after hw hb
      replace hx := hx.keep hb
      clear hb cX
      rw [List.nil_append] at hx hy
      have hxB := hx.bysB (by omega)
      have hyB := hy.bysB (by have := en_ten hm; omega)
      obtain ⟨xo, xc, hxe⟩ := slen_own hx
      rw [hN] at hxe
      subst hxe
      obtain ⟨yo, yc, rfl⟩ := slen_own hy
      have hbeg := en_begins hn hm
      rw [hN] at hbeg
      replace hbeg := hide hbeg
      have hymax := en_ten hm
      clear hx hy hz
      generalize hXl : en n = X at *
      generalize hYl : en m = Y at *
      go_wp2_with (fail)
      go_loopw [14, 15] (fun g i wr => ∃ k : Nat, k ≤ N ∧ k ≤ Y.length ∧ i = .int .i64 k ∧ g = .bool (decide (N ≤ Y.length ∧ ∀ j, j < k → gb X j = gb Y j)) ∧ Below w22.heap.size w22 wr) (fun _ i _ => N - (intOf i).toNat)
      case atStart => exact ⟨0, by omega, by omega, rfl, by simp, Below.refl _ _⟩
      case round =>
        obtain ⟨k, hk, hkY, rfl, rfl, hb⟩ := hrel
        by_cases hlt2 : k < N ∧ k < Y.length
        · obtain ⟨hlt2, hlt3⟩ := hlt2
          have hd2 : decide ((k : Int) < (N : Int)) = true := by simp; omega
          have hd3 : decide ((k : Int) < (Y.length : Int)) = true := by simp; omega
          obtain ⟨b, off, e1, hb1, hb2⟩ := hxB.cellAt (j := k) (by omega)
          obtain ⟨b', off', e2, hb1', hb2'⟩ := hyB.cellAt (j := k) (by omega)
          subst e1
          subst e2
          replace hb2 := (hb.cell (p := ⟨b, off + k, none⟩) hb1).trans hb2
          replace hb2' := (hb.cell (p := ⟨b', off' + k, none⟩) hb1').trans hb2'
          have hnext : Hid ((decide (N ≤ Y.length ∧ ∀ j, j < k → gb X j = gb Y j) && (bv (gb X k) == bv (gb Y k))) = decide (N ≤ Y.length ∧ ∀ j, j < k + 1 → gb X j = gb Y j)) := hide (by
            rw [Bool.eq_iff_iff]
            simp only [Bool.and_eq_true, decide_eq_true_eq, beq_iff_eq, bv_inj]
            constructor
            · rintro ⟨⟨h1, h2⟩, h3⟩
              refine ⟨h1, fun j hj => ?_⟩
              rcases Nat.lt_or_ge j k with q | q
              · exact h2 j q
              · obtain rfl : j = k := by omega
                exact h3
            · rintro ⟨h1, h2⟩
              exact ⟨⟨h1, fun j hj => h2 j (by omega)⟩, h2 k (by omega)⟩)
          have hk1 : 0 ≤ (k : Int) ∧ (k : Int) < (N : Int) := by omega
          have hk2 : 0 ≤ (k : Int) ∧ (k : Int) < (Y.length : Int) := by omega
          generalize decide (N ≤ Y.length ∧ ∀ j, j < k → gb X j = gb Y j) = G at *
          generalize bv (gb X k) = z at *
          generalize bv (gb Y k) = z' at *
          clear hxB hyB
          go_wp2_with (fail)
          have k1 : ∀ p : Regrown, (grow (redrawn wr p.d) p.os).cell? ⟨b, off + k, none⟩ = some (.int .u8 z) := fun p => cell_regrown (hb2) p.d p.os
          have k2 : ∀ p : Regrown, (grow (redrawn wr p.d) p.os).cell? ⟨b', off' + k, none⟩ = some (.int .u8 z') := fun p => cell_regrown (hb2') p.d p.os
          refine wp_region_quiet_below (by kernel_rfl) (by kernel_rfl) ?_
          cases G
          all_goals
            go_big_quiet_step (fail)
            go_big_quiet_step (fail)
            go_big_quiet_step (fail)
            go_big_quiet_step (fail)
            go_big_quiet_step (fail)
            go_big_quiet_step (fail)
            go_big_quiet_step (fail)
            go_big_quiet_step (fail)
            go_big_quiet_step (fail)
            go_big_quiet_step (fail)
            go_big_quiet_step (fail)
            go_big_quiet_step (fail)
            go_big_quiet_step (fail)
            refine wpQuiet_nil ?_
            rintro _ ⟨p, rfl⟩
            have hbb := below_regrown wr p.d p.os
            generalize grow (redrawn wr p.d) p.os = w9 at *
            clear k1 k2
            replace hb := Below.after hb hbb
            clear hbb
            go_wp2_with (fail)
            refine ⟨⟨k + 1, by omega, by omega, by go_num, by rw [← hnext.out]; rfl, hb⟩, ?_⟩
            simp [intOf]; omega
        · have hd2 : (decide ((k : Int) < (N : Int)) && decide ((k : Int) < (Y.length : Int))) = false := by simp; omega
          have hfin : Hid ((decide (N ≤ Y.length ∧ ∀ j, j < k → gb X j = gb Y j) == ((n : Int) == (m : Int))) = true) := hide (by
            rw [beq_iff_eq, Bool.eq_iff_iff]
            simp only [decide_eq_true_eq, beq_iff_eq]
            have h1 := hbeg.out
            constructor
            · rintro ⟨q1, q2⟩
              have := h1.1 ⟨q1, fun j hj hj2 => q2 j (by omega)⟩
              omega
            · intro q
              have q3 : n = m := by omega
              obtain ⟨q1, q2⟩ := h1.2 q3
              exact ⟨q1, fun j hj => q2 j (by omega) (by omega)⟩)
          generalize decide (N ≤ Y.length ∧ ∀ j, j < k → gb X j = gb Y j) = G at *
          clear hxB hyB
          by_cases q1 : k < N
          · have hd4 : decide ((k : Int) < (N : Int)) = true := by simp; omega
            have hd5 : decide ((k : Int) < (Y.length : Int)) = false := by simp; omega
            go_wp2_with (fail)
            go_ret
            exact ⟨by rw [← hfin.out]; rfl, Below.after hw hb⟩
          · have hd4 : decide ((k : Int) < (N : Int)) = false := by simp; omega
            go_wp2_with (fail)
            go_ret
            exact ⟨by rw [← hfin.out]; rfl, Below.after hw hb⟩
end Go.Proofs.Ytlglalhddeldbaa
