import Derived.Test.YtbbdfbljhjijbaaDoorProg
import Derived.WalkKit
import Derived.WalkSpells
import Derived.WalkLawsBesides
import Derived.Lib.QuietBelow
import Derived.BigQuiet
import Derived.Test.YtbbdfbljhjijbaaDoorKa
import Derived.Test.YtbbdfbljhjijbaaDoorHw
import Derived.OwnWalk
namespace Go.Proofs.YtbbdfbljhjijbaaDoor
open Go Go.RowKit Go.Sort
attribute [local go_sem] setCell_drewN alloc_drewN

/-- The marked room behind what is lent. -/
def marks (k : Nat) : List Int := (List.range k).map fun (i : Nat) => 171 + ((i % 60 : Nat) : Int)
theorem marks_succ (k : Nat) : marks (k + 1) = marks k ++ [171 + ((k % 60 : Nat) : Int)] := by simp [marks, List.range_succ]
set_option maxHeartbeats 2000000 in
theorem lent_walk (bs : List Int) (w : World) (ev : Value) (hB : Bys w ev bs) (hl : bs.length + 80 ≤ 281474976710656) (hnil : ∀ a l c, ev = .slice a l c → a = none → c = 0) : Calls Tryd.prog 10 #[ev] w fun e w' => ∃ v, e = .returned v ∧ ∃ g, v = .tuple #[.slice (some ⟨g, 0, none⟩) bs.length (bs.length + 80), .slice (some ⟨g, 0, none⟩) (bs.length + 80) (bs.length + 80)] ∧ w.heap.size ≤ g ∧ w'.heap[g]? = some (.cells (irow .u8 (bs ++ marks 80)) 5 (0, 0)) ∧ Below w.heap.size w w' := by
  obtain ⟨ao, cap, rfl, _, hc, hz⟩ := hB
  obtain ⟨i0, hi, hz0, hz1, hz2⟩ := info8
  generalize hlen : bs.length = len at *
  go_enter Tryd.func10, Tryd.ntmps10
  go_wp2_with (at_make; refine wpList_make_own _ rfl _ _ 27 rfl w.heap.size 5 i0 (.int .u8 0) 1 Tryd.underlying27 hi hz0 hz1 _ _ _ (len + 80) rfl rfl (by omega) ?b2 ?b3 (Nat.le_refl _) ?_)
  case b2 => rw [hz2]; omega
  case b3 => unfold maxLen; omega
  intro w0 hown0 hgrow0
  have hnone : ao = none → len = 0 ∧ cap = 0 := by
    intro h
    refine ⟨?_, hnil _ _ _ rfl h⟩
    rcases Nat.eq_zero_or_pos len with e | e
    · exact e
    · obtain ⟨b, off, e', _⟩ := hc 0 e
      rw [h] at e'; cases e'
  have hcell : ∀ ad, ao = some ad → ∀ j u, (bs.map (Value.int .u8))[j]? = some u → w0.cell? (ad.add j) = some u := by
    intro ad had j u hu
    have hj : j < len := by
      have := (List.getElem?_eq_some_iff.1 hu).1
      simpa [hlen] using this
    obtain ⟨b, off, e', hb, hcl⟩ := hc j hj
    obtain rfl : ad = ⟨b, off, none⟩ := Option.some.inj (had.symm.trans e')
    have : u = .int .u8 (bs.getD j 0) := by
      have hj' : j < bs.length := by omega
      simp only [List.getElem?_map, List.getElem?_eq_getElem hj', Option.map_some, Option.some.injEq] at hu
      rw [← hu, List.getD_eq_getElem?_getD, List.getElem?_eq_getElem hj']; rfl
    rw [this]
    rw [addr_add]
    exact hgrow0.cell (a := ⟨b, off + j, none⟩) hcl (fun e => by cases e)
  go_wp2_with (at_builtin; refine wpList_append_fits_any _ rfl (.tmp 10) (.tmp 11) 27 rfl w.heap.size 5 i0 1 Tryd.underlying27 hi hz1 w.heap.size 0 (len + 80) [] rfl hown0 ao len cap (bs.map (Value.int .u8)) rfl (by simp [hlen]) hnone hcell (ints_one .u8 bs) (by omega) ?_)
  intro w1 hown1 hgrow1
  have hw : Below w.heap.size w w1 := ((Below.refl _ _).grown hgrow0 (Nat.le_refl _) (fun k h => by cases h)).grown hgrow1 hgrow0.size (fun k h => by cases h; exact Nat.le_refl _)
  clear hcell hown0 hgrow0 hgrow1
  go_wp2
  go_loopw [4, 5] (fun s i wr => ∃ k : Nat, k ≤ 80 ∧ i = .int .i64 k ∧ s = .slice (some ⟨w.heap.size, 0, none⟩) (len + k) (len + 80) ∧ wr.ownsRow w.heap.size 5 1 (.slice (some ⟨w.heap.size, 0, none⟩) (len + k) (len + 80)) (len + k) ((bs ++ marks k).map (Value.int .u8)) ∧ Below w.heap.size w wr) (fun _ i _ => 80 - (intOf i).toNat)
  case atStart => exact ⟨0, by omega, rfl, by simp, by simpa [marks] using hown1, hw⟩
  case round =>
    obtain ⟨k, hk, rfl, rfl, hown, hw⟩ := hrel
    by_cases hlt : k < 80
    · have hd : decide ((k : Int) < 80) = true := by simp; omega
      have hown' : (wr.alloc (.cells #[.int .u8 (171 + (k : Int) % 60)] 5)).ownsRow w.heap.size 5 1 (.slice (some ⟨w.heap.size, 0, none⟩) (len + k) (len + 80)) (len + k) ((bs ++ marks k).map (Value.int .u8)) := hown.kept (World.grownBy_alloc wr _ none) (.inr (by simp [Value.ownBlock]))
      have hnew : ∀ ad, some (⟨wr.heap.size, 0, none⟩ : Addr) = some ad → ∀ j u, [Value.int .u8 (171 + (k : Int) % 60)][j]? = some u → (wr.alloc (.cells #[.int .u8 (171 + (k : Int) % 60)] 5)).cell? (ad.add j) = some u := by
        intro ad had j u hu
        obtain rfl := Option.some.inj had
        have hj : j = 0 := by
          have := (List.getElem?_eq_some_iff.1 hu).1
          simp at this
          exact this
        subst hj
        simp at hu
        subst hu
        rw [addr_add]
        have hg : (wr.alloc (.cells #[.int .u8 (171 + (k : Int) % 60)] 5)).heap[wr.heap.size]? = some (.cells #[.int .u8 (171 + (k : Int) % 60)] 5 (0, 0)) := hp1_0 wr _
        simp only [World.cell?, hg]
        rfl
      go_wp2_with (at_builtin; refine wpList_append_fits_any _ rfl (.tmp 17) (.tmp 22) 27 rfl w.heap.size 5 i0 1 Tryd.underlying27 hi hz1 w.heap.size (len + k) (len + 80) _ rfl hown' (some ⟨wr.heap.size, 0, none⟩) 1 1 [.int .u8 (171 + (k : Int) % 60)] rfl rfl (by intro h; cases h) hnew (by simp [Value.oneCell']) (by omega) ?_)
      intro w2 hown2 hgrow2
      have hw2 : Below w.heap.size w w2 := (hw.alloc hw.size _).grown hgrow2 (by simp; have := hw.size; omega) (fun k h => by cases h; exact Nat.le_refl _)
      replace hown2 : w2.ownsRow w.heap.size 5 1 (.slice (some ⟨w.heap.size, 0, none⟩) (len + (k + 1)) (len + 80)) (len + (k + 1)) ((bs ++ marks (k + 1)).map (Value.int .u8)) := by rw [marks_succ, ← Nat.add_assoc]; simpa using hown2
      clear hown hown' hnew hgrow2 hw
      go_wp2
      go_roundw
      case rel => exact ⟨k + 1, by omega, by go_num, rfl, hown2, hw2⟩
      case measure => simp [intOf]; omega
    · obtain rfl : k = 80 := by omega
      have hd : decide ((80 : Int) < 80) = false := by decide
      have hrow : wr.heap[w.heap.size]? = some (.cells (irow .u8 (bs ++ marks 80)) 5 (0, 0)) := by
        obtain ⟨hlx, h | ⟨g, cp, cur, hv, _, hg, _, _, hs, ht⟩⟩ := hown
        · cases h.1
        · cases hv
          rw [hg]
          have : cur = irow .u8 (bs ++ marks 80) := by
            apply Array.ext'
            rw [irow, ← ht]
            symm
            apply List.take_of_length_le
            rw [Array.length_toList]
            omega
          rw [this]
      clear hown
      go_wp2
      go_ret2
      exact ⟨_, rfl, _, rfl, Nat.le_refl _, hrow, hw⟩

theorem at_low (bs : List Int) (k : Nat) (hk : k < bs.length) : (bs ++ marks 80).getD k 0 = bs.getD k 0 := by
  simp [List.getD_eq_getElem?_getD, List.getElem?_append_left hk]
theorem at_high (bs : List Int) (k : Nat) (hk : ¬ k < bs.length) (hu : k < bs.length + 80) : (bs ++ marks 80).getD k 0 = 171 + ((k : Int) - bs.length) % 60 := by
  have : k - bs.length < 80 := by omega
  rw [List.getD_eq_getElem?_getD, List.getElem?_append_right (by omega)]
  simp [marks, this]
  omega
set_option maxHeartbeats 2000000 in
theorem kept_walk (bs : List Int) (g : Nat) (w : World) (ev : Value) (hB : Bys w ev bs) (hl : bs.length + 80 ≤ 281474976710656) (hg : w.heap[g]? = some (.cells (irow .u8 (bs ++ marks 80)) 5 (0, 0))) : Calls Tryd.prog 13 #[.slice (some ⟨g, 0, none⟩) (bs.length + 80) (bs.length + 80), ev] w fun e w' => e = .returned (.bool true) ∧ Below w.heap.size w w' := by
  obtain ⟨ao, cap, rfl, _, hc, hz⟩ := hB
  have hall : ∀ k, k < bs.length + 80 → w.cell? ⟨g, k, none⟩ = some (.int .u8 ((bs ++ marks 80).getD k 0)) := fun k hk => irow_cell hg (by simp [marks]; omega)
  have hgs := lt_of_row hg
  have hlow := at_low bs
  have hhigh := at_high bs
  generalize hlen : bs.length = len at *
  go_enter Tryd.func13, Tryd.ntmps13
  go_wp2
  go_loopw [5] (fun i wr => ∃ k : Nat, k ≤ len + 80 ∧ i = .int .i64 k ∧ Below w.heap.size w wr) (fun i _ => len + 80 - (intOf i).toNat)
  case atStart => exact ⟨0, by omega, rfl, Below.refl _ _⟩
  case round =>
    obtain ⟨k, hk, rfl, hw⟩ := hrel
    by_cases hlt : k < len + 80
    · have hd : decide ((k : Int) < (len : Int) + 80) = true := by simp; omega
      have h1 := (hw.cell (p := ⟨g, k, none⟩) hgs).trans (hall k hlt)
      by_cases hin : k < len
      · obtain ⟨b, off, rfl, hb1, hb2⟩ := hc k hin
        replace hb2 := (hw.cell (p := ⟨b, off + k, none⟩) hb1).trans hb2
        rw [hlow k hin] at h1
        have hd2 : decide ((k : Int) < (len : Int)) = true := by simp; omega
        have hd3 : decide (len ≤ k) = false := decide_eq_false (by omega)
        generalize bs.getD k 0 = z at *
        have k1 : ∀ p : Regrown, (grow (redrawn wr p.d) p.os).cell? ⟨g, k, none⟩ = some (.int .u8 z) := fun p => cell_regrown h1 p.d p.os
        have k2 : ∀ p : Regrown, (grow (redrawn wr p.d) p.os).cell? ⟨b, off + k, none⟩ = some (.int .u8 z) := fun p => cell_regrown hb2 p.d p.os
        clear h1 hb2 hall hc hlow hhigh
        go_wp2
        refine wp_region_quiet_below (by kernel_rfl) (by kernel_rfl) ?_
        go_big_quiet_step (fail)
        go_big_quiet_step (fail)
        go_big_quiet_step (fail)
        go_big_quiet_step (fail)
        go_big_quiet_step (fail)
        go_big_quiet_step (fail)
        go_big_quiet_step (fail)
        go_big_quiet_step (fail)
        go_big_quiet_step (fail)
        go_big_quiet_step (fail)
        go_big_quiet_step (fail)
        go_big_quiet_step (fail)
        go_big_quiet_step (fail)
        go_big_quiet_step (fail)
        go_big_quiet_step (fail)
        go_big_quiet_step (fail)
        go_big_quiet_step (fail)
        go_big_quiet_step (fail)
        go_big_quiet_step (fail)
        go_big_quiet_step (fail)
        go_big_quiet_step (fail)
        go_big_quiet_step (fail)
        go_big_quiet_step (fail)
        go_big_quiet_step (fail)
        go_big_quiet_step (fail)
        go_big_quiet_step (fail)
        go_big_quiet_step (fail)
        go_big_quiet_step (fail)
        go_big_quiet_step (fail)
        go_big_quiet_step (fail)
        go_big_quiet_step (fail)
        go_big_quiet_step (fail)
        go_big_quiet_step (fail)
        go_big_quiet_step (fail)
        go_big_quiet_step (fail)
        refine wpQuiet_nil ?_
        rintro _ ⟨p, rfl⟩
        have hb := below_regrown wr p.d p.os
        clear k1 k2
        generalize grow (redrawn wr p.d) p.os = w2 at *
        replace hw := Below.after hw hb
        clear hb
        go_wp2
        go_roundw
        case rel => exact ⟨k + 1, by omega, by go_num, hw⟩
        case measure => simp [intOf]; omega
      · rw [hhigh k hin hlt] at h1
        have hd2 : decide ((k : Int) < (len : Int)) = false := by simp; omega
        have hd3 : decide (len ≤ k) = true := decide_eq_true (by omega)
        have k1 : ∀ p : Regrown, (grow (redrawn wr p.d) p.os).cell? ⟨g, k, none⟩ = some (.int .u8 (171 + ((k : Int) - len) % 60)) := fun p => cell_regrown h1 p.d p.os
        clear h1 hall hc hlow hhigh
        go_wp2
        refine wp_region_quiet_below (by kernel_rfl) (by kernel_rfl) ?_
        go_big_quiet_step (fail)
        go_big_quiet_step (fail)
        go_big_quiet_step (fail)
        go_big_quiet_step (fail)
        go_big_quiet_step (fail)
        go_big_quiet_step (fail)
        go_big_quiet_step (fail)
        go_big_quiet_step (fail)
        go_big_quiet_step (fail)
        go_big_quiet_step (fail)
        go_big_quiet_step (fail)
        go_big_quiet_step (fail)
        go_big_quiet_step (fail)
        go_big_quiet_step (fail)
        go_big_quiet_step (fail)
        go_big_quiet_step (fail)
        go_big_quiet_step (fail)
        go_big_quiet_step (fail)
        go_big_quiet_step (fail)
        go_big_quiet_step (fail)
        go_big_quiet_step (fail)
        go_big_quiet_step (fail)
        go_big_quiet_step (fail)
        go_big_quiet_step (fail)
        go_big_quiet_step (fail)
        go_big_quiet_step (fail)
        go_big_quiet_step (fail)
        go_big_quiet_step (fail)
        go_big_quiet_step (fail)
        go_big_quiet_step (fail)
        go_big_quiet_step (fail)
        go_big_quiet_step (fail)
        go_big_quiet_step (fail)
        go_big_quiet_step (fail)
        go_big_quiet_step (fail)
        refine wpQuiet_nil ?_
        rintro _ ⟨p, rfl⟩
        have hb := below_regrown wr p.d p.os
        clear k1
        generalize grow (redrawn wr p.d) p.os = w2 at *
        replace hw := Below.after hw hb
        clear hb
        go_wp2
        go_roundw
        case rel => exact ⟨k + 1, by omega, by go_num, hw⟩
        case measure => simp [intOf]; omega
    · obtain rfl : k = len + 80 := by omega
      have hd : decide (((len + 80 : Nat) : Int) < (len : Int) + 80) = false := by simp
      go_wp2
      go_ret
      exact ⟨rfl, hw⟩


end Go.Proofs.YtbbdfbljhjijbaaDoor

