import Derived.Test.YtjoohgkgkabbpaaGreatDoorVQd1
import Derived.OwnWalk
import Derived.Test.YtjoohgkgkabbpaaGreatDoorVEvh
import Derived.Test.YtjoohgkgkabbpaaGreatDoorVExw
import Derived.Test.YtjoohgkgkabbpaaGreatDoorVQc0
import Derived.Deep.Cut
import Derived.Deep.RegionHeld3
namespace Go.Proofs.YtjoohgkgkabbpaaGreatDoor
set_option maxRecDepth 100000
open Go Go.RowKit Go.Sort
attribute [local go_sem] setCell_drewN alloc_drewN
structure BeK (K : Nat → Prop) (lo : Nat) (w w' : World) : Prop where
 bel : Below lo w w'
 oth : ∀ k, K k → w'.heap[k]? = w.heap[k]?
theorem BeK.size {K : Nat → Prop} {lo : Nat} {w w' : World} (h : BeK K lo w w') : w.heap.size ≤ w'.heap.size := h.bel.size
theorem BeK.refl (K : Nat → Prop) (lo : Nat) (w : World) : BeK K lo w w := ⟨Below.refl _ _, fun _ _ => rfl⟩
theorem BeK.setCell {K : Nat → Prop} {lo : Nat} {a w : World} (h : BeK K lo a w) {p : Addr} (hp : lo ≤ p.block) (hn : ¬ K p.block) (u : Value) : BeK K lo a (w.setCell p u) :=
 ⟨h.bel.setCell hp u, fun k hk => (Below.heap_setCell _ _ _ _ (fun e => hn (by rw [← e]; exact hk))).trans (h.oth k hk)⟩
theorem BeK.alloc {K : Nat → Prop} {lo : Nat} {a w : World} (h : BeK K lo a w) (hK : ∀ k, K k → k < a.heap.size) (hB : lo ≤ w.heap.size) (o : Obj) : BeK K lo a (w.alloc o) :=
 ⟨h.bel.alloc hB o, fun k hk => (Below.heap_alloc _ _ _ (by have := hK k hk; have := h.size; omega)).trans (h.oth k hk)⟩
theorem BeK.grown {K : Nat → Prop} {lo : Nat} {a w w' : World} {row : Option Nat} (h : BeK K lo a w) (hK : ∀ k, K k → k < a.heap.size) (hg : w.grownBy w' row) (hB : lo ≤ w.heap.size) (hr : ∀ k, row = some k → lo ≤ k) (hn : ∀ k, row = some k → ¬ K k) : BeK K lo a w' :=
 ⟨h.bel.grown hg hB hr, fun k hk => (hg.block k (by have := hK k hk; have := h.size; omega) (fun e => hn k e.symm hk)).trans (h.oth k hk)⟩
set_option maxRecDepth 100000 in
set_option maxHeartbeats 4000000 in
theorem s_apartK (K : Nat → Prop) (xs : List (Option Nat × Nat × Nat)) (gl lo : Nat) (w : World) (hloW : lo ≤ w.heap.size) (hn : xs.length ≤ 50) (hg : w.heap[gl]? = some (.cells (xs.map apV).toArray 22 (0, 0))) (hr : ApR lo w xs fun _ _ => True) (hd : ApD xs) (hK1 : ∀ k, K k → k < w.heap.size) (hK2 : ∀ (i : Nat) g m c, xs[i]? = some (some g, m, c) → ¬ K g) (hlo : ∀ (i : Nat) g m c, xs[i]? = some (some g, m, c) → g ≠ gl ∧ m ≤ 140737488350000) : Calls Tryz.prog 21 #[.slice (some ⟨gl, 0, none⟩) xs.length xs.length] w fun e w' => e = .returned (.bool true) ∧ BeK K lo w w' := by
 have lgl := lt_of_row hg
 have hrow := fun (W : World) h => ap_row (W := W) (gl := gl) (xs := xs) h
 go_enter Tryz.func21, Tryz.ntmps21
 go_wp2
 go_loopw [3] (fun i wr => ∃ k : Nat, k ≤ xs.length ∧ i = .int .i64 k ∧ ApR lo wr xs (fun j l => j < k → ∀ t, t < l.length → l.getD t 0 = 1 + (j : Int)) ∧ wr.heap[gl]? = some (.cells (xs.map apV).toArray 22 (0, 0)) ∧ BeK K lo w wr) (fun i _ => xs.length - (intOf i).toNat)
 case atStart => exact ⟨0, by omega, rfl, hr.mono (fun j l _ _ _ _ _ _ h => by omega), hg, BeK.refl _ _ _⟩
 case round =>
  clear hg hr
  obtain ⟨k, hk, rfl, hr, hg, hw⟩ := hrel
  by_cases hlt : k < xs.length
  ·have hdk : decide ((k : Int) < (xs.length : Int)) = true := by simp; omega
   have hmod : (1 + (k : Int)) % 256 = 1 + (k : Int) := by omega
   obtain ⟨x, hxk⟩ : ∃ x, xs[k]? = some x := ⟨_, List.getElem?_eq_getElem hlt⟩
   have hrk := fun W h => hrow W h k hlt
   rw [show xs.getD k (none, 0, 0) = x by rw [List.getD_eq_getElem?_getD, hxk]; rfl] at hrk
   replace hrk := hide hrk
   replace hrow := hide hrow
   go_wp2
   go_loopw [4] (fun i wr => ∃ t : Nat, t ≤ apN x ∧ i = .int .i64 t ∧ ApR lo wr xs (fun j l => (j < k → ∀ t, t < l.length → l.getD t 0 = 1 + (j : Int)) ∧ (j = k → ∀ u, u < t → l.getD u 0 = 1 + (j : Int))) ∧ wr.heap[gl]? = some (.cells (xs.map apV).toArray 22 (0, 0)) ∧ BeK K lo w wr) (fun i _ => apN x - (intOf i).toNat)
   case atStart => exact ⟨0, by omega, rfl, hr.mono (fun j l _ _ _ _ _ h => ⟨h, fun _ u hu => by omega⟩), hg, hw⟩
   case round =>
    clear hr hg hw
    obtain ⟨t, ht, rfl, hr, hg, hw⟩ := hrel
    have hcl := hrk.out _ hg
    by_cases hlt2 : t < apN x
    ·have hdt : decide ((t : Int) < (apN x : Int)) = true := by simp; omega
     obtain ⟨g, m, c, rfl⟩ := ap_some hlt2
     change wr.cell? ⟨gl, k, none⟩ = some (.slice (some ⟨g, 0, none⟩) m c) at hcl
     change t < m at hlt2
     change decide ((t : Int) < (m : Int)) = true at hdt
     obtain ⟨l, hl, rl, hP⟩ := hr k g m c hxk
     obtain ⟨hgg, hmm⟩ := hlo k g m c hxk
     have hlg := (or_high rl).2
     obtain ⟨c1, c2⟩ := or_cell rl hlt2
     have hr2 : ApR lo (wr.setCell ⟨g, t, none⟩ (.int .u8 (1 + (k : Int)))) xs (fun j l => (j < k → ∀ t, t < l.length → l.getD t 0 = 1 + (j : Int)) ∧ (j = k → ∀ u, u < t + 1 → l.getD u 0 = 1 + (j : Int))) := hr.put hd hxk hlt2 (fun l hl h => ⟨fun hkk => by omega, fun _ u hu => by
      rw [getD_set_if6 l t u _ (by omega)]
      split
      ·rfl
      ·exact h.2 rfl u (by omega)⟩) (fun j l hj h => ⟨h.1, fun e => absurd e hj⟩)
     have hg2 : (wr.setCell ⟨g, t, none⟩ (.int .u8 (1 + (k : Int)))).heap[gl]? = _ := heap_other hg (Ne.symm hgg)
     have hw2 := hw.setCell (show lo ≤ (⟨g, t, none⟩ : Addr).block from hlg) (show ¬ K (⟨g, t, none⟩ : Addr).block from hK2 _ _ _ _ hxk) (.int .u8 (1 + (k : Int)))
     clear hr hg hw hP rl hl
     generalize l.getD t 0 = z at *
     go_wp2
     refine ⟨⟨t + 1, by show t + 1 ≤ m; omega, by go_num, hr2, hg2, hw2⟩, ?_⟩
     simp [intOf, apN]; omega
    ·obtain rfl : t = apN x := by omega
     have hdt : decide ((apN x : Int) < (apN x : Int)) = false := by simp
     have hr2 : ApR lo wr xs (fun j l => j < k + 1 → ∀ t, t < l.length → l.getD t 0 = 1 + (j : Int)) := hr.mono (fun j l g m c hj hl h hjk t ht => by
      rcases Nat.lt_or_ge j k with q | q
      ·exact h.1 q t ht
      ·obtain rfl : j = k := by omega
       refine h.2 rfl t ?_
       rw [hxk] at hj
       cases hj
       show t < m
       omega)
     clear hr
     go_wp2
     refine ⟨⟨k + 1, by omega, by go_num, hr2, hg, hw⟩, ?_⟩
     simp [intOf]; omega
  ·obtain rfl : k = xs.length := by omega
   have hdk : decide ((xs.length : Int) < (xs.length : Int)) = false := by simp
   replace hr : ApR lo wr xs (fun j l => ∀ t, t < l.length → l.getD t 0 = 1 + (j : Int)) := hr.mono (fun j l g m c hj hl h => h (List.getElem?_eq_some_iff.1 hj).1)
   replace hrow := hide hrow
   go_wp2
   go_loopw [5, 6] (fun i _ wr => ∃ k : Nat, k ≤ xs.length ∧ i = .int .i64 k ∧ ApR lo wr xs (fun j l => ∀ t, t < l.length → l.getD t 0 = 1 + (j : Int)) ∧ wr.heap[gl]? = some (.cells (xs.map apV).toArray 22 (0, 0)) ∧ BeK K lo w wr) (fun i _ _ => xs.length - (intOf i).toNat)
   case atStart => exact ⟨0, by omega, rfl, hr, hg, hw⟩
   case round =>
    clear hr hg hw hdk
    obtain ⟨k, hk, rfl, hr, hg, hw⟩ := hrel
    by_cases hlt2 : k < xs.length
    ·have hdk : decide ((k : Int) < (xs.length : Int)) = true := by simp; omega
     have hmod : (201 + (k : Int)) % 256 = 201 + (k : Int) := by omega
     obtain ⟨x, hxk⟩ : ∃ x, xs[k]? = some x := ⟨_, List.getElem?_eq_getElem hlt2⟩
     have hcl := hrow.out _ hg k hlt2
     rw [show xs.getD k (none, 0, 0) = x by rw [List.getD_eq_getElem?_getD, hxk]; rfl] at hcl
     obtain ⟨i0, hi, hz0, hz1, hz2⟩ := info8
     have hmN : apN x ≤ 140737488350000 := by
      obtain ⟨_ | g, m, c⟩ := x
      ·exact Nat.zero_le _
      ·exact (hlo k g m c hxk).2
     have hlow : lo ≤ wr.heap.size := Nat.le_trans hloW hw.size
     have hgs : ∀ (j g m c : Nat), xs[j]? = some (some g, m, c) → g < wr.heap.size := fun j g m c hj => by
      obtain ⟨l, _, h, _⟩ := hr j g m c hj
      exact (or_high h).1
     have lgw := lt_of_row hg
     have hszw := hw.size
     go_wp2
     generalize eB : wr.heap.size = B at *
     generalize wr = wo at *
     go_loopw [6, 7] (fun v i wr => ∃ j : Nat, j ≤ 80 ∧ i = .int .i64 j ∧ B ≤ wr.heap.size ∧ ApR lo wr xs (fun j l => ∀ t, t < l.length → l.getD t 0 = 1 + (j : Int)) ∧ wr.heap[gl]? = some (.cells (xs.map apV).toArray 22 (0, 0)) ∧ BeK K lo w wr ∧ ∃ v0, v = v0 ∧ ((∃ (g m c : Nat) (l : List Int) (ys : List Value), x = (some g, m, c) ∧ l.length = m ∧ (∀ t, t < l.length → l.getD t 0 = 1 + (k : Int)) ∧ v0 = .slice (some ⟨g, 0, none⟩) (m + j) c ∧ wr.ownsRow lo 5 1 (.slice (some ⟨g, 0, none⟩) (m + j) c) (m + j) (l.map (Value.int .u8) ++ ys)) ∨ (∃ ys : List Value, wr.ownsRow B 5 1 v0 (apN x + j) ys))) (fun _ i _ => 80 - (intOf i).toNat)
     case atStart =>
      refine ⟨0, by omega, rfl, by omega, hr, hg, hw, _, rfl, ?_⟩
      obtain ⟨_ | g, m, c⟩ := x
      ·exact .inr ⟨[], rfl, .inl ⟨rfl, rfl⟩⟩
      ·obtain ⟨l, hl, h, hm⟩ := hr k g m c hxk
       exact .inl ⟨g, m, c, l, [], rfl, hl, hm, rfl, by rw [List.append_nil]; exact h⟩
     case round =>
      clear hr hg hw hcl
      obtain ⟨j, hj, rfl, hBr, hr, hg, hw, v, hvv, hv⟩ := hrel
      by_cases hlt3 : j < 80
      ·have hdj : decide ((j : Int) < 80) = true := by simp; omega
       have hga := World.grownBy_alloc wr (.cells #[.int .u8 (201 + (k : Int))] 5) none
       have hra := hr.moved hga (fun _ _ _ _ _ h => by cases h)
       have hwa : BeK K lo w (wr.alloc (.cells #[.int .u8 (201 + (k : Int))] 5)) := hw.alloc hK1 (by have := hw.size; omega) _
       have hgl2 : (wr.alloc (.cells #[.int .u8 (201 + (k : Int))] 5)).heap[gl]? = some (.cells (xs.map apV).toArray 22 (0, 0)) := (hga.block gl (by omega) (by simp)).trans hg
       have hza : (wr.alloc (.cells #[.int .u8 (201 + (k : Int))] 5)).heap.size = wr.heap.size + 1 := size_alloc1 _ _
       rcases hv with ⟨g, m, c, l, ys, rfl, hl, hm, rfl, hown⟩ | ⟨ys, hown⟩
       ·subst hvv
        have hown_ := hown.alloc (.cells #[.int .u8 (201 + (k : Int))] 5)
        change m ≤ _ at hmN
        have hgB := hgs k g m c hxk
        have hgg := (hlo k g m c hxk).1
        go_wp2_with (at_builtin; refine wpList_append_cases _ rfl (.tmp 48) (.tmp 52) 22 rfl lo 5 i0 (.int .u8 0) Tryz.underlying22 hi hz0 hz1 hz2 rfl g (m + j) c _ rfl hown_ ⟨wr.heap.size, 0, none⟩ 1 1 [.int .u8 (201 + (k : Int))] rfl rfl (new_cell wr (201 + (k : Int))) (by simp [Value.oneCell']) (by unfold maxLen; omega) (by omega) (by omega) ?_ ?_)
        ·intro w2 hown2 hgrow
         have hs2 := hgrow.size
         have hB2 : B ≤ w2.heap.size := by omega
         have hr2 : ApR lo w2 xs (fun j l => ∀ t, t < l.length → l.getD t 0 = 1 + (j : Int)) := fun j' g' m' c' hj' => by
          by_cases e : j' = k
          ·subst e
           rw [hxk] at hj'
           cases hj'
           exact ⟨l, hl, or_prefix (j := j + 1) hown2 (by rw [List.length_map]; exact hl), hm⟩
          ·obtain ⟨l', h1, h2, h3⟩ := hra j' g' m' c' hj'
           refine ⟨l', h1, or_move h2 hgrow (fun q => e ?_), h3⟩
           injection q with q
           subst q
           exact hd _ _ _ _ _ _ _ hj' hxk
         have hg3 : w2.heap[gl]? = _ := (hgrow.block gl (by omega) (by intro e; injection e with e; omega)).trans hgl2
         have hw3 := hwa.grown hK1 hgrow (by omega) (fun q h => by injection h with h; have := (or_high hown_).2; omega) (fun q h => by injection h with h; subst h; exact hK2 _ _ _ _ hxk)
         clear hr hra hown hown_ hgrow hwa hw hg hgl2 hga hza
         go_wp2
         refine ⟨⟨j + 1, by omega, by go_num, hB2, hr2, hg3, hw3, _, rfl, .inl ⟨g, m, c, l, _, rfl, hl, hm, by rw [Nat.add_assoc], hown2⟩⟩, ?_⟩
         simp [intOf]; omega
        ·intro v' w2 hown2 hgrow
         have hs2 := hgrow.size
         have hB2 : B ≤ w2.heap.size := by omega
         have hr2 := hra.moved hgrow (fun _ _ _ _ _ h => by cases h)
         have hg3 : w2.heap[gl]? = _ := (hgrow.block gl (by omega) (by simp)).trans hgl2
         have hw3 := hwa.grown hK1 hgrow (by omega) (fun q h => by cases h) (fun q h => by cases h)
         replace hown2 := or_lower hown2 (show B ≤ wr.heap.size + 1 by omega)
         clear hr hra hown hown_ hgrow hwa hw hg hgl2 hga hza
         obtain ⟨ao', cap', rfl⟩ := slen_own hown2
         go_wp2
         refine ⟨⟨j + 1, by omega, by go_num, hB2, hr2, hg3, hw3, _, rfl, .inr ⟨_, hown2⟩⟩, ?_⟩
         simp [intOf]; omega
       ·have hown_ := hown.alloc (.cells #[.int .u8 (201 + (k : Int))] 5)
        obtain ⟨ao0, cap0, rfl⟩ := slen_own hown
        subst hvv
        generalize apN x = m at *
        go_wp2_with (at_builtin; refine wpList_append_own _ rfl (.tmp 48) (.tmp 52) 22 rfl B 5 i0 (.int .u8 0) 1 1 Tryz.underlying22 hi hz0 hz1 hz2 rfl (by decide) _ (m + j) ys rfl hown_ ⟨wr.heap.size, 0, none⟩ 1 1 [.int .u8 (201 + (k : Int))] rfl rfl (new_cell wr (201 + (k : Int))) (by simp [Value.oneCell']) (by unfold maxLen; omega) (by omega) (by omega) ?_)
        intro v' w2 hown2 hgrow _
        have hs2 := hgrow.size
        have hB2 : B ≤ w2.heap.size := by omega
        have hob : ∀ q, (Value.slice ao0 (m + j) cap0).ownBlock = some q → B ≤ q := fun q h => (hown_.lt q h).1
        have hr2 := hra.moved hgrow (fun j' g' m' c' hj' h => by
         have h1 := hob _ h
         have h2 := hgs j' g' m' c' hj'
         omega)
        have hg3 : w2.heap[gl]? = _ := (hgrow.block gl (by omega) (fun e => by have := hob _ e.symm; omega)).trans hgl2
        have hw3 := hwa.grown hK1 hgrow (by omega) (fun q h => by have := hob q h; omega) (fun q h hk => by have := hob q h; have := hK1 q hk; omega)
        clear hr hra hown hown_ hgrow hwa hw hg hgl2 hga hza hob
        obtain ⟨ao', cap', rfl⟩ := slen_own hown2
        go_wp2
        refine ⟨⟨j + 1, by omega, by go_num, hB2, hr2, hg3, hw3, _, rfl, .inr ⟨_, hown2⟩⟩, ?_⟩
        simp [intOf]; omega
      ·obtain rfl : j = 80 := by omega
       have hdj : decide ((80 : Int) < 80) = false := by decide
       have hvl : ∃ ao0 cap0, v = .slice ao0 (apN x + 80) cap0 := by
        rcases hv with ⟨g, m, c, l, ys, rfl, hl, hm, rfl, hown⟩ | ⟨ys, hown⟩
        ·exact ⟨_, _, rfl⟩
        ·exact slen_own hown
       obtain ⟨ao0, cap0, rfl⟩ := hvl
       subst hvv
       have hcl := hrow.out _ hg k hlt2
       rw [show xs.getD k (none, 0, 0) = x by rw [List.getD_eq_getElem?_getD, hxk]; rfl] at hcl
       clear hv
       go_wp2
       refine ⟨⟨k + 1, by omega, by go_num, hr, hg, hw⟩, ?_⟩
       simp [intOf]; omega
    ·obtain rfl : k = xs.length := by omega
     have hdk : decide ((xs.length : Int) < (xs.length : Int)) = false := by simp
     go_wp2
     go_loopw [8] (fun i wr => ∃ k : Nat, k ≤ xs.length ∧ i = .int .i64 k ∧ ApR lo wr xs (fun j l => ∀ t, t < l.length → l.getD t 0 = 1 + (j : Int)) ∧ wr.heap[gl]? = some (.cells (xs.map apV).toArray 22 (0, 0)) ∧ BeK K lo w wr) (fun i _ => xs.length - (intOf i).toNat)
     case atStart => exact ⟨0, by omega, rfl, hr, hg, hw⟩
     case round =>
      clear hr hg hw hdk
      obtain ⟨k, hk, rfl, hr, hg, hw⟩ := hrel
      by_cases hlt3 : k < xs.length
      ·have hdk : decide ((k : Int) < (xs.length : Int)) = true := by simp; omega
       have hmod : (1 + (k : Int)) % 256 = 1 + (k : Int) := by omega
       obtain ⟨x, hxk⟩ : ∃ x, xs[k]? = some x := ⟨_, List.getElem?_eq_getElem hlt3⟩
       have hrk := fun W h => hrow.out W h k hlt3
       rw [show xs.getD k (none, 0, 0) = x by rw [List.getD_eq_getElem?_getD, hxk]; rfl] at hrk
       replace hrk := hide hrk
       go_wp2
       go_loopw [9] (fun i wr => ∃ t : Nat, t ≤ apN x ∧ i = .int .i64 t ∧ ApR lo wr xs (fun j l => ∀ t, t < l.length → l.getD t 0 = 1 + (j : Int)) ∧ wr.heap[gl]? = some (.cells (xs.map apV).toArray 22 (0, 0)) ∧ BeK K lo w wr) (fun i _ => apN x - (intOf i).toNat)
       case atStart => exact ⟨0, by omega, rfl, hr, hg, hw⟩
       case round =>
        clear hr hg hw
        obtain ⟨t, ht, rfl, hr, hg, hw⟩ := hrel
        have hcl := hrk.out _ hg
        by_cases hlt4 : t < apN x
        ·have hdt : decide ((t : Int) < (apN x : Int)) = true := by simp; omega
         obtain ⟨g, m, c, rfl⟩ := ap_some hlt4
         change wr.cell? ⟨gl, k, none⟩ = some (.slice (some ⟨g, 0, none⟩) m c) at hcl
         change t < m at hlt4
         change decide ((t : Int) < (m : Int)) = true at hdt
         obtain ⟨l, hl, rl, hP⟩ := hr k g m c hxk
         have hmm := (hlo k g m c hxk).2
         obtain ⟨c1, _⟩ := or_cell rl hlt4
         rw [hP t (by omega)] at c1
         clear hP rl
         go_wp2
         refine ⟨⟨t + 1, by show t + 1 ≤ m; omega, by go_num, hr, hg, hw⟩, ?_⟩
         simp [intOf, apN]; omega
        ·obtain rfl : t = apN x := by omega
         have hdt : decide ((apN x : Int) < (apN x : Int)) = false := by simp
         go_wp2
         refine ⟨⟨k + 1, by omega, by go_num, hr, hg, hw⟩, ?_⟩
         simp [intOf]; omega
      ·obtain rfl : k = xs.length := by omega
       have hdk : decide ((xs.length : Int) < (xs.length : Int)) = false := by simp
       go_wp2
       go_ret
       exact ⟨rfl, hw⟩
def OwnsP (W : World) (lo hi : Nat) : List (Value × List B) → Prop
 | [] => True
 | x :: r => Own W lo x.1 x.2 ∧ (∀ k, x.1.ownBlock = some k → k < hi) ∧ x.2.length ≤ 140737488350000 ∧ (∀ y ∈ r, ∀ k, x.1.ownBlock = some k → y.1.ownBlock ≠ some k) ∧ OwnsP W lo hi r
theorem OwnsP.ap {W : World} {lo hi : Nat} : ∀ {l : List (Value × List B)}, OwnsP W lo hi l → ∃ xs : List (Option Nat × Nat × Nat), xs.map apV = l.map Prod.fst ∧ ApR lo W xs (fun _ _ => True) ∧ ApD xs ∧ ∀ (i : Nat) g m c, xs[i]? = some (some g, m, c) → (∃ y ∈ l, y.1.ownBlock = some g) ∧ lo ≤ g ∧ g < hi ∧ m ≤ 140737488350000
 | [], _ => ⟨[], rfl, fun j g m c h => by simp at h, fun i j g m n c d h => by simp at h, fun i g m c h => by simp at h⟩
 | x :: r, ⟨h2, h3, h4, h5, h6⟩ => by
  obtain ⟨xs, q1, q2, q3, q4⟩ := OwnsP.ap h6
  obtain ⟨y, hy, hyy⟩ := own_ap h2
  have hx : ∀ g m c, y = (some g, m, c) → x.1.ownBlock = some g := fun g m c e => by rw [hy, e]; rfl
  refine ⟨y :: xs, by rw [List.map_cons, List.map_cons, q1, hy], ?_, ?_, ?_⟩
  ·intro j g m c hj
   cases j with
   | zero =>
    have e : y = (some g, m, c) := by simpa using hj
    obtain ⟨e1, e2, e3, e4⟩ := hyy g m c e
    exact ⟨bl x.2, by rw [bl_len, e1], e4, trivial⟩
   | succ j => exact q2 j g m c (by simpa using hj)
  ·intro i j g m n c d hi hj
   cases i with
   | zero =>
    cases j with
    | zero => rfl
    | succ j =>
     obtain ⟨z, hz, hzb⟩ := (q4 j g n d (by simpa using hj)).1
     exact absurd hzb (h5 z hz g (hx g m c (by simpa using hi)))
   | succ i =>
    cases j with
    | zero =>
     obtain ⟨z, hz, hzb⟩ := (q4 i g m c (by simpa using hi)).1
     exact absurd hzb (h5 z hz g (hx g n d (by simpa using hj)))
    | succ j => rw [q3 i j g m n c d (by simpa using hi) (by simpa using hj)]
  ·intro i g m c hi'
   cases i with
   | zero =>
    have e : y = (some g, m, c) := by simpa using hi'
    obtain ⟨e1, e2, e3, e4⟩ := hyy g m c e
    exact ⟨⟨x, by simp, hx g m c e⟩, e2, h3 g (hx g m c e), by omega⟩
   | succ i =>
    obtain ⟨⟨z, hz, hzb⟩, q⟩ := q4 i g m c (by simpa using hi')
    exact ⟨⟨z, by simp [hz], hzb⟩, q⟩
theorem s_apartsK (K : Nat → Prop) (l : List (Value × List B)) (lo hi gl : Nat) (w : World) (hO : OwnsP w lo hi l) (hlo : lo ≤ hi) (hh : hi ≤ gl) (hn : l.length ≤ 50) (hg : w.heap[gl]? = some (.cells (l.map Prod.fst).toArray 22 (0, 0))) (hK1 : ∀ k, K k → k < w.heap.size) (hK2 : ∀ y ∈ l, ∀ k, y.1.ownBlock = some k → ¬ K k) : Calls Tryz.prog 21 #[.slice (some ⟨gl, 0, none⟩) l.length l.length] w fun e w' => e = .returned (.bool true) ∧ BeK K lo w w' := by
 have hgl := lt_of_row hg
 obtain ⟨xs, q1, q2, q3, q4⟩ := hO.ap
 have hlen : xs.length = l.length := by have := congrArg List.length q1; simpa using this
 have := s_apartK K xs gl lo w (by omega) (by omega) (by rw [q1]; exact hg) q2 q3 hK1 (fun i g m c h => by
  obtain ⟨⟨y, hy, hyb⟩, _⟩ := q4 i g m c h
  exact hK2 y hy g hyb) (fun i g m c h => by have := (q4 i g m c h).2; omega)
 rw [hlen] at this
 exact this
end Go.Proofs.YtjoohgkgkabbpaaGreatDoor
namespace Go.Proofs.YtjoohgkgkabbpaaGreatDoor
set_option maxRecDepth 100000
open Go Go.RowKit Go.Sort
attribute [local go_sem] setCell_drewN alloc_drewN
theorem r_ParseEF (d : List B) (b : Value) (w : World) (hB : BysB w b d) (hcap : ∀ a l c, b = .slice a l c → l ≤ c) : Calls Tryz.prog 23 #[b] w fun e w' => ∃ ha hc ba bc, e = .returned (.tuple #[.agg (evl (vP d) (nP d) (.slice ha (hP d).length hc) (.slice ba (bP d).length bc)), .agg (fP d)]) ∧ Own w' w.heap.size (.slice ha (hP d).length hc) (hP d) ∧ Own w' w.heap.size (.slice ba (bP d).length bc) (bP d) ∧ Below w.heap.size w w' := by
 refine (r_ParseE d b w hB hcap).mono ?_
 rintro e w' ⟨h, hb⟩
 unfold RrE at h
 unfold vP nP hP bP fP
 cases hd : paF d with
 | none =>
  rw [hd] at h
  obtain ⟨ha, hc, ba, bc, h1, h2, h3⟩ := h
  exact ⟨ha, hc, ba, bc, h1, h2, h3, hb⟩
 | some x =>
  rw [hd] at h
  exact ⟨none, 0, none, 0, h, own_none10 _ _, own_none10 _ _, hb⟩
set_option maxRecDepth 100000 in
set_option maxHeartbeats 16000000 in
theorem envParses_any (d : List B) (w : World) (dv : Value) (hE : Ety w) (hD : BysB w dv d) (hcap0 : ∀ a l c, dv = .slice a l c → l ≤ c) : Calls Tryz.prog 6 #[dv] w fun e w' => e = .returned (.bool true) ∧ Below w.heap.size w w' := by
 have pA := hide (fun (W : World) (u : Value) (h : BysB W u d) (hc : ∀ a l c, u = .slice a l c → l ≤ c) => a_ParseEF d u W h hc)
 have rA := hide (fun (W : World) (u : Value) (h : BysB W u d) (hc : ∀ a l c, u = .slice a l c → l ≤ c) => r_ParseEF d u W h hc)
 have hn := nP_len d
 have lH := hP_len d
 have lB := bP_len d
 generalize vP d = ver at *
 generalize nP d = nonce at *
 generalize hP d = hd at *
 generalize bP d = bd at *
 generalize fP d = F at *
 have pT := hide (fun (W : World) (u : Value) (h : BysB W u d.reverse) (hc : ∀ a l c, u = .slice a l c → l ≤ c) => a_ParseEF d.reverse u W h hc)
 have rT := hide (fun (W : World) (u : Value) (h : BysB W u d.reverse) (hc : ∀ a l c, u = .slice a l c → l ≤ c) => r_ParseEF d.reverse u W h hc)
 have hn2 := nP_len d.reverse
 generalize vP d.reverse = ver2 at *
 generalize nP d.reverse = nonce2 at *
 generalize hP d.reverse = hd2 at *
 generalize bP d.reverse = bd2 at *
 generalize fP d.reverse = F2 at *
 replace lH := hide lH
 replace lB := hide lB
 have hcap := hide hcap0
 clear hcap0
 have hE1 := hide (fun V (h : Below w.heap.size w V) => hE.keep h rfl)
 clear hE
 have hDh := hide (fun V (h : Below w.heap.size w V) => hD.keep h)
 have hDl := hD.2.1
 obtain ⟨dao, dcap, rfl⟩ := hD.form
 have hw : Below w.heap.size w w := Below.refl _ _
 clear hD
 go_enter Tryz.func6, Tryz.ntmps6
 go_wp2_with (fail)
 have cX := sB_hand d w _ (hDh.out _ hw)
 refine cX.mono ?_
 rintro e_ w1 ⟨rfl, rI, hb⟩
 clear cX
 replace hw := Below.after hw hb
 have sz_w1 := hb.size
 clear hb
 have sIn := slice_to (some ⟨w.heap.size, 0, none⟩) (d.length + 80) (d.length + 80) d.length (by omega)
 have lgI := lt_of_row rI
 obtain ⟨lo, elo⟩ : ∃ n, n = w1.heap.size := ⟨_, rfl⟩
 have klo : w.heap.size < lo := by omega
 go_wp2_with (fail)
 have cX := pA.out w1 (.slice (some ⟨w.heap.size, 0, none⟩) d.length (d.length + 80)) (head_bysB rI rfl hDl _) (fun a l c h => by cases h; omega)
 refine cX.mono ?_
 rintro e_ a1 ⟨xa, xc, xb, xd, Ex, rfl, oxh, oxb, djx, hFx, hb⟩
 clear cX
 replace rI := keep hb rI
 replace hw := Below.after hw hb
 have sz_a1 := hb.size
 clear hb
 have hixh := own_high oxh
 have hixb := own_high oxb
 have loxh := own_low oxh
 have loxb := own_low oxb
 have z_ := hp1_0 a1 (.cells (evl 0 n16 (.slice none 0 0) (.slice none 0 0)) 51)
 have Rx := hide (setRow_heap (a1.alloc (.cells (evl 0 n16 (.slice none 0 0) (.slice none 0 0)) 51)) a1.heap.size _ (evl ver nonce (.slice xa hd.length xc) (.slice xb bd.length xd)) _ _ z_)
 have hb' : Hid (Below a1.heap.size a1 ((a1.alloc (.cells (evl 0 n16 (.slice none 0 0) (.slice none 0 0)) 51)).setRow a1.heap.size (evl ver nonce (.slice xa hd.length xc) (.slice xb bd.length xd)))) := hide (below_setRow ((Below.refl _ _).alloc (Nat.le_refl _) _) (Nat.le_refl _) _)
 go_wp2_with (first | (refine wpList_alloc rfl 51 rfl (evl 0 n16 (.slice none 0 0) (.slice none 0 0)) zEnv ?_) | (refine wpList_store_row rfl 51 _ _ rfl (a1.heap.size) (evl ver nonce (.slice xa hd.length xc) (.slice xb bd.length xd)) rfl rfl 51 _ z_ (evl_info _ _ hn _ _) (by rw [evl_size _ _ n16_len, evl_size _ _ hn]) (evl_one _ _ _ _ _ _ _ _) ?_; refine wpList_stay ?_) | fail)
 unfold WpStay
 try simp only [Act.put, List.setIfInBounds_toArray, List.set_cons_succ, List.set_cons_zero]
 replace Rx := Rx.out
 have hb := hb'.out
 clear z_ hb'
 replace rI := keep hb rI
 replace oxh := oxh.keep hb
 replace oxb := oxb.keep hb
 replace hFx := hFx.keep hb
 replace hw := Below.after hw hb
 have sz_a2 := hb.size
 clear hb
 generalize (a1.alloc (.cells (evl 0 n16 (.slice none 0 0) (.slice none 0 0)) 51)).setRow a1.heap.size (evl ver nonce (.slice xa hd.length xc) (.slice xb bd.length xd)) = a2 at *
 generalize a1.heap.size = gx at *
 have lggx := lt_of_row Rx
 go_wp2_with (fail)
 have cX := pA.out a2 (.slice (some ⟨w.heap.size, 0, none⟩) d.length (d.length + 80)) (head_bysB rI rfl hDl _) (fun a l c h => by cases h; omega)
 refine cX.mono ?_
 rintro e_ a3 ⟨ya, yc, yb, yd, Ey, rfl, oyh, oyb, djy, hFy, hb⟩
 clear cX
 have l_Rx_a3 := lt_of_row Rx
 replace rI := keep hb rI
 replace Rx := keep hb Rx
 replace oxh := oxh.keep hb
 replace oxb := oxb.keep hb
 replace hFx := hFx.keep hb
 replace hw := Below.after hw hb
 have sz_a3 := hb.size
 clear hb
 have hiyh := own_high oyh
 have hiyb := own_high oyb
 have loyh := own_low oyh
 have loyb := own_low oyb
 have z_ := hp1_0 a3 (.cells (evl 0 n16 (.slice none 0 0) (.slice none 0 0)) 51)
 have Ry := hide (setRow_heap (a3.alloc (.cells (evl 0 n16 (.slice none 0 0) (.slice none 0 0)) 51)) a3.heap.size _ (evl ver nonce (.slice ya hd.length yc) (.slice yb bd.length yd)) _ _ z_)
 have hb' : Hid (Below a3.heap.size a3 ((a3.alloc (.cells (evl 0 n16 (.slice none 0 0) (.slice none 0 0)) 51)).setRow a3.heap.size (evl ver nonce (.slice ya hd.length yc) (.slice yb bd.length yd)))) := hide (below_setRow ((Below.refl _ _).alloc (Nat.le_refl _) _) (Nat.le_refl _) _)
 go_wp2_with (first | (refine wpList_alloc rfl 51 rfl (evl 0 n16 (.slice none 0 0) (.slice none 0 0)) zEnv ?_) | (refine wpList_store_row rfl 51 _ _ rfl (a3.heap.size) (evl ver nonce (.slice ya hd.length yc) (.slice yb bd.length yd)) rfl rfl 51 _ z_ (evl_info _ _ hn _ _) (by rw [evl_size _ _ n16_len, evl_size _ _ hn]) (evl_one _ _ _ _ _ _ _ _) ?_; refine wpList_stay ?_) | fail)
 unfold WpStay
 try simp only [Act.put, List.setIfInBounds_toArray, List.set_cons_succ, List.set_cons_zero]
 replace Ry := Ry.out
 have hb := hb'.out
 clear z_ hb'
 have l_Rx_a4 := lt_of_row Rx
 replace rI := keep hb rI
 replace Rx := keep hb Rx
 replace oxh := oxh.keep hb
 replace oxb := oxb.keep hb
 replace hFx := hFx.keep hb
 replace oyh := oyh.keep hb
 replace oyb := oyb.keep hb
 replace hFy := hFy.keep hb
 replace hw := Below.after hw hb
 have sz_a4 := hb.size
 clear hb
 generalize (a3.alloc (.cells (evl 0 n16 (.slice none 0 0) (.slice none 0 0)) 51)).setRow a3.heap.size (evl ver nonce (.slice ya hd.length yc) (.slice yb bd.length yd)) = a4 at *
 generalize a3.heap.size = gy at *
 have lggy := lt_of_row Ry
 go_wp2_with (fail)
 have cX := rA.out a4 _ (hDh.out _ hw) hcap.out
 refine cX.mono ?_
 rintro e_ a5 ⟨qa, qc, qb, qd, rfl, oqh, oqb, hb⟩
 clear cX
 have l_Rx_a5 := lt_of_row Rx
 have l_Ry_a5 := lt_of_row Ry
 replace rI := keep hb rI
 replace Rx := keep hb Rx
 replace Ry := keep hb Ry
 replace oxh := oxh.keep hb
 replace oxb := oxb.keep hb
 replace hFx := hFx.keep hb
 replace oyh := oyh.keep hb
 replace oyb := oyb.keep hb
 replace hFy := hFy.keep hb
 replace hw := Below.after hw hb
 have sz_a5 := hb.size
 clear hb
 have z0 := hp2_0 a5 (.cells (evl 0 n16 (.slice none 0 0) (.slice none 0 0)) 51) (.cells #[.int .i64 0, .int .i64 0, .int .i64 0] 35)
 have z1 := hp2_1 a5 (.cells (evl 0 n16 (.slice none 0 0) (.slice none 0 0)) 51) (.cells #[.int .i64 0, .int .i64 0, .int .i64 0] 35)
 have y1 := (setRow_other ((a5.alloc (.cells (evl 0 n16 (.slice none 0 0) (.slice none 0 0)) 51)).alloc (.cells #[.int .i64 0, .int .i64 0, .int .i64 0] 35)) a5.heap.size (a5.heap.size + 1) (evl ver nonce (.slice qa hd.length qc) (.slice qb bd.length qd)) (by omega)).trans z1
 have Kq := hide ((setRow_other (((a5.alloc (.cells (evl 0 n16 (.slice none 0 0) (.slice none 0 0)) 51)).alloc (.cells #[.int .i64 0, .int .i64 0, .int .i64 0] 35)).setRow a5.heap.size (evl ver nonce (.slice qa hd.length qc) (.slice qb bd.length qd))) (a5.heap.size + 1) a5.heap.size F (by omega)).trans (setRow_heap ((a5.alloc (.cells (evl 0 n16 (.slice none 0 0) (.slice none 0 0)) 51)).alloc (.cells #[.int .i64 0, .int .i64 0, .int .i64 0] 35)) a5.heap.size _ (evl ver nonce (.slice qa hd.length qc) (.slice qb bd.length qd)) _ _ z0))
 have Kf := hide (setRow_heap (((a5.alloc (.cells (evl 0 n16 (.slice none 0 0) (.slice none 0 0)) 51)).alloc (.cells #[.int .i64 0, .int .i64 0, .int .i64 0] 35)).setRow a5.heap.size (evl ver nonce (.slice qa hd.length qc) (.slice qb bd.length qd))) (a5.heap.size + 1) _ F _ _ y1)
 have Kb := hide (below_setRow (below_setRow (((Below.refl a5.heap.size a5).alloc (Nat.le_refl _) (.cells (evl 0 n16 (.slice none 0 0) (.slice none 0 0)) 51)).alloc (by simp) (.cells #[.int .i64 0, .int .i64 0, .int .i64 0] 35)) (Nat.le_refl _) (evl ver nonce (.slice qa hd.length qc) (.slice qb bd.length qd))) (show a5.heap.size ≤ a5.heap.size + 1 by omega) F)
 have iF := hFx.info
 have zF := hFx.size
 have oF := hFx.one
 go_wp2_with (first | (refine wpList_alloc rfl 51 rfl (evl 0 n16 (.slice none 0 0) (.slice none 0 0)) zEnv ?_) | (refine wpList_store_row rfl 51 _ _ rfl (a5.heap.size) (evl ver nonce (.slice qa hd.length qc) (.slice qb bd.length qd)) rfl rfl 51 _ z0 (evl_info _ _ hn _ _) (by rw [evl_size _ _ n16_len, evl_size _ _ hn]) (evl_one _ _ _ _ _ _ _ _) ?_) | (refine wpList_store_row rfl 35 _ _ rfl (a5.heap.size + 1) F rfl rfl 35 _ y1 iF (by rw [zF]; rfl) oF ?_; refine wpList_stay ?_) | fail)
 unfold WpStay
 try simp only [Act.put, List.setIfInBounds_toArray, List.set_cons_succ, List.set_cons_zero]
 have hb := Kb.out
 have Rq := Kq.out
 have Rf := Kf.out
 clear z0 z1 y1 Kb Kq Kf
 have l_Rx_a6 := lt_of_row Rx
 have l_Ry_a6 := lt_of_row Ry
 replace rI := keep hb rI
 replace Rx := keep hb Rx
 replace Ry := keep hb Ry
 replace oxh := oxh.keep hb
 replace oxb := oxb.keep hb
 replace hFx := hFx.keep hb
 replace oyh := oyh.keep hb
 replace oyb := oyb.keep hb
 replace hFy := hFy.keep hb
 replace oqh := oqh.keep hb
 replace oqb := oqb.keep hb
 replace hw := Below.after hw hb
 have sz_a6 := hb.size
 clear hb
 generalize (((a5.alloc (.cells (evl 0 n16 (.slice none 0 0) (.slice none 0 0)) 51)).alloc (.cells #[.int .i64 0, .int .i64 0, .int .i64 0] 35)).setRow a5.heap.size (evl ver nonce (.slice qa hd.length qc) (.slice qb bd.length qd))).setRow (a5.heap.size + 1) F = a6 at *
 generalize a5.heap.size = gq at *
 have lgq := lt_of_row Rf
 go_wp2_with (first | (refine wpList_load_want rfl 51 _ rfl gx rfl 51 (evl ver nonce (.slice xa hd.length xc) (.slice xb bd.length xd)) (0, 0) _ Rx Tryz.underlying51 rfl (evl_info _ _ hn _ _) ?_) | (refine wpList_load_want rfl 51 _ rfl gq rfl 51 (evl ver nonce (.slice qa hd.length qc) (.slice qb bd.length qd)) (0, 0) _ Rq Tryz.underlying51 rfl (evl_info _ _ hn _ _) ?_) | fail)
 have cX := l_sameEnv ver nonce hd bd hn _ _ _ _ _ _ _ _ a6 oxh.bys oxb.bys oqh.bys oqb.bys
 refine cX.mono ?_
 rintro e_ a7 ⟨rfl, hb⟩
 clear cX
 have l_Rx_a7 := lt_of_row Rx
 have l_Ry_a7 := lt_of_row Ry
 have l_Rq_a7 := lt_of_row Rq
 have l_Rf_a7 := lt_of_row Rf
 replace rI := keep hb rI
 replace Rx := keep hb Rx
 replace Ry := keep hb Ry
 replace Rq := keep hb Rq
 replace Rf := keep hb Rf
 replace oxh := oxh.keep hb
 replace oxb := oxb.keep hb
 replace hFx := hFx.keep hb
 replace oyh := oyh.keep hb
 replace oyb := oyb.keep hb
 replace hFy := hFy.keep hb
 replace oqh := oqh.keep hb
 replace oqb := oqb.keep hb
 replace hw := Below.after hw hb
 have sz_a7 := hb.size
 clear hb
 go_wp2_with (first | (refine wpList_load_want rfl 51 _ rfl gy rfl 51 (evl ver nonce (.slice ya hd.length yc) (.slice yb bd.length yd)) (0, 0) _ Ry Tryz.underlying51 rfl (evl_info _ _ hn _ _) ?_) | (refine wpList_load_want rfl 51 _ rfl gq rfl 51 (evl ver nonce (.slice qa hd.length qc) (.slice qb bd.length qd)) (0, 0) _ Rq Tryz.underlying51 rfl (evl_info _ _ hn _ _) ?_) | fail)
 have cX := l_sameEnv ver nonce hd bd hn _ _ _ _ _ _ _ _ a7 oyh.bys oyb.bys oqh.bys oqb.bys
 refine cX.mono ?_
 rintro e_ a8 ⟨rfl, hb⟩
 clear cX
 have l_Rx_a8 := lt_of_row Rx
 have l_Ry_a8 := lt_of_row Ry
 have l_Rq_a8 := lt_of_row Rq
 have l_Rf_a8 := lt_of_row Rf
 replace rI := keep hb rI
 replace Rx := keep hb Rx
 replace Ry := keep hb Ry
 replace Rq := keep hb Rq
 replace Rf := keep hb Rf
 replace oxh := oxh.keep hb
 replace oxb := oxb.keep hb
 replace hFx := hFx.keep hb
 replace oyh := oyh.keep hb
 replace oyb := oyb.keep hb
 replace hFy := hFy.keep hb
 replace oqh := oqh.keep hb
 replace oqb := oqb.keep hb
 replace hw := Below.after hw hb
 have sz_a8 := hb.size
 clear hb
 clear oqh oqb
 go_wp2_with (first | (refine wpList_load_want rfl 35 _ rfl (gq + 1) rfl 35 F (0, 0) _ Rf Tryz.underlying35 rfl iF ?_) | fail)
 have cX := l_faulty a8 (hE1.out _ hw) hFx
 refine cX.mono ?_
 rintro e_ a9 ⟨rfl, hb⟩
 clear cX hFx
 have l_Rx_a9 := lt_of_row Rx
 have l_Ry_a9 := lt_of_row Ry
 have l_Rq_a9 := lt_of_row Rq
 have l_Rf_a9 := lt_of_row Rf
 replace rI := keep hb rI
 replace Rx := keep hb Rx
 replace Ry := keep hb Ry
 replace Rq := keep hb Rq
 replace Rf := keep hb Rf
 replace oxh := oxh.keep hb
 replace oxb := oxb.keep hb
 replace oyh := oyh.keep hb
 replace oyb := oyb.keep hb
 replace hFy := hFy.keep hb
 replace hw := Below.after hw hb
 have sz_a9 := hb.size
 clear hb
 go_wp2_with (first | (refine wpList_load_want rfl 35 _ rfl (gq + 1) rfl 35 F (0, 0) _ Rf Tryz.underlying35 rfl iF ?_) | fail)
 have cX := l_faulty a9 (hE1.out _ hw) hFy
 refine cX.mono ?_
 rintro e_ p8 ⟨rfl, hb⟩
 clear cX hFy
 have l_Rx_p8 := lt_of_row Rx
 have l_Ry_p8 := lt_of_row Ry
 have l_Rq_p8 := lt_of_row Rq
 have l_Rf_p8 := lt_of_row Rf
 replace rI := keep hb rI
 replace Rx := keep hb Rx
 replace Ry := keep hb Ry
 replace Rq := keep hb Rq
 replace Rf := keep hb Rf
 replace oxh := oxh.keep hb
 replace oxb := oxb.keep hb
 replace oyh := oyh.keep hb
 replace oyb := oyb.keep hb
 replace hw := Below.after hw hb
 have sz_p8 := hb.size
 clear hb
 have cx17 : p8.cell? ⟨gx, 17, none⟩ = some (.slice xa hd.length xc) := by rw [cell_of_row _ _ _ _ _ _ Rx]; exact evl_h _ _ hn _ _
 have cx18 : p8.cell? ⟨gx, 18, none⟩ = some (.slice xb bd.length xd) := by rw [cell_of_row _ _ _ _ _ _ Rx]; exact evl_b _ _ hn _ _
 have cy17 : p8.cell? ⟨gy, 17, none⟩ = some (.slice ya hd.length yc) := by rw [cell_of_row _ _ _ _ _ _ Ry]; exact evl_h _ _ hn _ _
 have cy18 : p8.cell? ⟨gy, 18, none⟩ = some (.slice yb bd.length yd) := by rw [cell_of_row _ _ _ _ _ _ Ry]; exact evl_b _ _ hn _ _
 go_wp2_with (fail)
 clear cx17 cx18 cy17 cy18
 have hba : Below p8.heap.size p8 (p8.alloc (.cells #[.slice xa hd.length xc, .slice xb bd.length xd, .slice ya hd.length yc, .slice yb bd.length yd] 22)) := (Below.refl _ _).alloc (Nat.le_refl _) _
 replace rI := keep hba rI
 replace Rx := keep hba Rx
 replace Ry := keep hba Ry
 replace Rq := keep hba Rq
 replace Rf := keep hba Rf
 replace oxh := oxh.keep hba
 replace oxb := oxb.keep hba
 replace oyh := oyh.keep hba
 replace oyb := oyb.keep hba
 replace hw := Below.after hw hba
 clear hba
 have hOs : OwnsP (p8.alloc (.cells #[.slice xa hd.length xc, .slice xb bd.length xd, .slice ya hd.length yc, .slice yb bd.length yd] 22)) lo p8.heap.size [(.slice xa hd.length xc, hd), (.slice xb bd.length xd, bd), (.slice ya hd.length yc, hd), (.slice yb bd.length yd, bd)] := by
  refine ⟨own_down oxh (by omega), fun k h => by have := hixh k h; omega, lH.out, ?_, own_down oxb (by omega), fun k h => by have := hixb k h; omega, lB.out, ?_, own_down oyh (by omega), fun k h => by have := hiyh k h; omega, lH.out, ?_, own_down oyb (by omega), fun k h => by have := hiyb k h; omega, lB.out, ?_, trivial⟩
  ·intro y hy k hk hk2
   simp only [List.mem_cons, List.not_mem_nil, or_false] at hy
   have := hixh k hk
   rcases hy with rfl | rfl | rfl
   ·exact djx k hk hk2
   ·have := loyh k hk2; omega
   ·have := loyb k hk2; omega
  ·intro y hy k hk hk2
   simp only [List.mem_cons, List.not_mem_nil, or_false] at hy
   have := hixb k hk
   rcases hy with rfl | rfl
   ·have := loyh k hk2; omega
   ·have := loyb k hk2; omega
  ·intro y hy k hk hk2
   simp only [List.mem_cons, List.not_mem_nil, or_false] at hy
   subst hy
   exact djy k hk hk2
  ·intro y hy
   simp at hy
 have hgl : (p8.alloc (.cells #[.slice xa hd.length xc, .slice xb bd.length xd, .slice ya hd.length yc, .slice yb bd.length yd] 22)).heap[p8.heap.size]? = some (.cells (([(.slice xa hd.length xc, hd), (.slice xb bd.length xd, bd), (.slice ya hd.length yc, hd), (.slice yb bd.length yd, bd)] : List (Value × List B)).map Prod.fst).toArray 22 (0, 0)) := hp1_0 p8 _
 have lpx := lt_of_row Rx
 have lpf := lt_of_row Rf
 have lpq := lt_of_row Rq
 have cX := s_apartsK (fun k => k = gx ∨ k = gq ∨ k = gq + 1) _ lo _ p8.heap.size (p8.alloc (.cells #[.slice xa hd.length xc, .slice xb bd.length xd, .slice ya hd.length yc, .slice yb bd.length yd] 22)) hOs (by omega) (Nat.le_refl _) (by simp) hgl (fun k h => by rcases h with rfl | rfl | rfl <;> assumption) (by
  intro y hy k hk hK
  simp only [List.mem_cons, List.not_mem_nil, or_false] at hy
  rcases hy with rfl | rfl | rfl | rfl
  ·have := hixh k hk; omega
  ·have := hixb k hk; omega
  ·have := hiyh k hk; have := loyh k hk; omega
  ·have := hiyb k hk; have := loyb k hk; omega)
 refine cX.mono ?_
 rintro e_ p9 ⟨rfl, hb⟩
 clear cX hgl hOs oxh oxb oyh oyb hixh hixb hiyh hiyb loxh loxb loyh loyb djx djy
 replace rI : p9.heap[w.heap.size]? = _ := (hb.bel.block _ klo).trans rI
 replace Rx := (hb.oth gx (.inl rfl)).trans Rx
 replace Rq := (hb.oth gq (.inr (.inl rfl))).trans Rq
 replace Rf := (hb.oth (gq + 1) (.inr (.inr rfl))).trans Rf
 replace hw := hw.trans (hb.bel.mono (by omega))
 clear hb lpx lpf lpq Ry
 go_wp2_with (fail)
 have cX := sB_left d w.heap.size p9 _ (hDh.out _ hw) rI
 refine cX.mono ?_
 rintro e_ b6 ⟨rfl, hb⟩
 clear cX
 have l_Rx_b6 := lt_of_row Rx
 have l_Rq_b6 := lt_of_row Rq
 have l_Rf_b6 := lt_of_row Rf
 replace rI := keep hb rI
 replace Rx := keep hb Rx
 replace Rq := keep hb Rq
 replace Rf := keep hb Rf
 replace hw := Below.after hw hb
 have sz_b6 := hb.size
 clear hb
 go_wp2_with (fail)
 have cX := sB_turned d w.heap.size b6 _ (hDh.out _ hw) rI
 refine cX.mono ?_
 rintro e_ b7 ⟨rfl, rT_, rI2, hgr⟩
 clear cX
 have kx := (hgr.block gx (lt_of_row Rx) (fun h => by injection h with h; omega)).trans Rx
 have kq := (hgr.block gq (lt_of_row Rq) (fun h => by injection h with h; omega)).trans Rq
 have kf := (hgr.block (gq + 1) (lt_of_row Rf) (fun h => by injection h with h; omega)).trans Rf
 have lxT := lt_of_row Rx
 have lfT := lt_of_row Rf
 replace hw := hw.grown hgr hw.size (fun k h => by injection h with h; omega)
 have lf7 := lt_of_row kf
 clear hgr rI Rx Rq Rf
 have rI := rI2
 clear rI2
 generalize b6.heap.size = gT at *
 have sIn := slice_to (some ⟨w.heap.size, 0, none⟩) (d.length + 80) (d.length + 80) d.length (by omega)
 go_wp2_with (fail)
 have cX := pT.out b7 (.slice (some ⟨w.heap.size, 0, none⟩) d.length (d.length + 80)) (head_bysB rI List.length_reverse hDl _) (fun a l c h => by cases h; omega)
 refine cX.mono ?_
 rintro e_ b8 ⟨ua, uc, ub, ud, Eu, rfl, ouh, oub, _, hFu, hb⟩
 clear cX
 have l_rT__b8 := lt_of_row rT_
 have l_kx_b8 := lt_of_row kx
 have l_kq_b8 := lt_of_row kq
 have l_kf_b8 := lt_of_row kf
 replace rI := keep hb rI
 replace rT_ := keep hb rT_
 replace kx := keep hb kx
 replace kq := keep hb kq
 replace kf := keep hb kf
 replace hw := Below.after hw hb
 have sz_b8 := hb.size
 clear hb
 have Rx := hide (setRow_heap b8 gx _ (evl ver2 nonce2 (.slice ua hd2.length uc) (.slice ub bd2.length ud)) _ _ kx)
 have hw2 := hide (below_setRow hw (show w.heap.size ≤ gx by omega) (evl ver2 nonce2 (.slice ua hd2.length uc) (.slice ub bd2.length ud)))
 have rT2 := hide ((setRow_other b8 gx gT (evl ver2 nonce2 (.slice ua hd2.length uc) (.slice ub bd2.length ud)) (by omega)).trans rT_)
 have kq' := hide ((setRow_other b8 gx gq (evl ver2 nonce2 (.slice ua hd2.length uc) (.slice ub bd2.length ud)) (by omega)).trans kq)
 have kf' := hide ((setRow_other b8 gx (gq + 1) (evl ver2 nonce2 (.slice ua hd2.length uc) (.slice ub bd2.length ud)) (by omega)).trans kf)
 have hF2 := hide (hFu.row (k := gx) (by omega) (evl ver2 nonce2 (.slice ua hd2.length uc) (.slice ub bd2.length ud)))
 have ouh2 := hide (own_setRow (g := gx) ouh (by omega) (evl ver2 nonce2 (.slice ua hd2.length uc) (.slice ub bd2.length ud)))
 have oub2 := hide (own_setRow (g := gx) oub (by omega) (evl ver2 nonce2 (.slice ua hd2.length uc) (.slice ub bd2.length ud)))
 clear rT_ kq kf hw rI hFu ouh oub
 go_wp2_with (first | (refine wpList_store_row rfl 51 _ _ rfl (gx) (evl ver2 nonce2 (.slice ua hd2.length uc) (.slice ub bd2.length ud)) rfl rfl 51 _ kx (evl_info _ _ hn2 _ _) (by rw [evl_size _ _ hn, evl_size _ _ hn2]) (evl_one _ _ _ _ _ _ _ _) ?_; refine wpList_stay ?_) | fail)
 unfold WpStay
 try simp only [Act.put, List.setIfInBounds_toArray, List.set_cons_succ, List.set_cons_zero]
 clear kx
 have Rx := Rx.out
 have hw := hw2.out
 have rT_ := rT2.out
 have Rq := kq'.out
 have Rf := kf'.out
 have hFu := hF2.out
 have ouh := ouh2.out
 have oub := oub2.out
 clear hw2 rT2 kq' kf' hF2 ouh2 oub2
 have szb : (b8.setRow gx (evl ver2 nonce2 (.slice ua hd2.length uc) (.slice ub bd2.length ud))).heap.size = b8.heap.size := by simp
 generalize b8.setRow gx (evl ver2 nonce2 (.slice ua hd2.length uc) (.slice ub bd2.length ud)) = c1 at *
 go_wp2_with (fail)
 have cX := rT.out c1 (.slice (some ⟨gT, 0, none⟩) d.length d.length) (row_bysB rT_ List.length_reverse hDl _) (fun a l c h => by cases h; exact Nat.le_refl _)
 refine cX.mono ?_
 rintro e_ c2 ⟨va, vc, vb, vd, rfl, ovh, ovb, hb⟩
 clear cX rT_
 have l_Rx_c2 := lt_of_row Rx
 have l_Rq_c2 := lt_of_row Rq
 have l_Rf_c2 := lt_of_row Rf
 replace Rx := keep hb Rx
 replace Rq := keep hb Rq
 replace Rf := keep hb Rf
 replace hFu := hFu.keep hb
 replace ouh := ouh.keep hb
 replace oub := oub.keep hb
 replace hw := Below.after hw hb
 have sz_c2 := hb.size
 clear hb
 have iJ := hFu.info
 have zJ := hFu.size
 have oJ := hFu.one
 have y7 := (setRow_other c2 gq (gq + 1) (evl ver2 nonce2 (.slice va hd2.length vc) (.slice vb bd2.length vd)) (by omega)).trans Rf
 have S4 := hide ((setRow_other (c2.setRow gq (evl ver2 nonce2 (.slice va hd2.length vc) (.slice vb bd2.length vd))) (gq + 1) gx F2 (by omega)).trans ((setRow_other c2 gq gx (evl ver2 nonce2 (.slice va hd2.length vc) (.slice vb bd2.length vd)) (by omega)).trans Rx))
 have S6 := hide ((setRow_other (c2.setRow gq (evl ver2 nonce2 (.slice va hd2.length vc) (.slice vb bd2.length vd))) (gq + 1) gq F2 (by omega)).trans (setRow_heap c2 gq _ (evl ver2 nonce2 (.slice va hd2.length vc) (.slice vb bd2.length vd)) _ _ Rq))
 have S7 := hide (setRow_heap (c2.setRow gq (evl ver2 nonce2 (.slice va hd2.length vc) (.slice vb bd2.length vd))) (gq + 1) _ F2 _ _ y7)
 have hw2 := hide (below_setRow (below_setRow hw (show w.heap.size ≤ gq by omega) (evl ver2 nonce2 (.slice va hd2.length vc) (.slice vb bd2.length vd))) (show w.heap.size ≤ gq + 1 by omega) F2)
 have hF2 := hide ((hFu.row (k := gq) (by omega) (evl ver2 nonce2 (.slice va hd2.length vc) (.slice vb bd2.length vd))).row (k := gq + 1) (by omega) F2)
 have o1 := hide (own_setRow (g := gq + 1) (own_setRow (g := gq) ouh (by omega) (evl ver2 nonce2 (.slice va hd2.length vc) (.slice vb bd2.length vd))) (by omega) F2)
 have o2 := hide (own_setRow (g := gq + 1) (own_setRow (g := gq) oub (by omega) (evl ver2 nonce2 (.slice va hd2.length vc) (.slice vb bd2.length vd))) (by omega) F2)
 have o3 := hide (own_setRow (g := gq + 1) (own_setRow (g := gq) ovh (by omega) (evl ver2 nonce2 (.slice va hd2.length vc) (.slice vb bd2.length vd))) (by omega) F2)
 have o4 := hide (own_setRow (g := gq + 1) (own_setRow (g := gq) ovb (by omega) (evl ver2 nonce2 (.slice va hd2.length vc) (.slice vb bd2.length vd))) (by omega) F2)
 clear hw hFu Rx ouh oub ovh ovb
 go_wp2_with (first | (refine wpList_store_row rfl 51 _ _ rfl (gq) (evl ver2 nonce2 (.slice va hd2.length vc) (.slice vb bd2.length vd)) rfl rfl 51 _ Rq (evl_info _ _ hn2 _ _) (by rw [evl_size _ _ hn, evl_size _ _ hn2]) (evl_one _ _ _ _ _ _ _ _) ?_) | (refine wpList_store_row rfl 35 _ _ rfl (gq + 1) F2 rfl rfl 35 _ y7 iJ (by rw [zJ, zF]) oJ ?_; refine wpList_stay ?_) | fail)
 unfold WpStay
 try simp only [Act.put, List.setIfInBounds_toArray, List.set_cons_succ, List.set_cons_zero]
 clear y7 Rq Rf
 have Rx := S4.out
 have Rq := S6.out
 have Rf := S7.out
 have hw := hw2.out
 have hFu := hF2.out
 have ouh := o1.out
 have oub := o2.out
 have ovh := o3.out
 have ovb := o4.out
 clear S4 S6 S7 hw2 hF2 o1 o2 o3 o4
 generalize (c2.setRow gq (evl ver2 nonce2 (.slice va hd2.length vc) (.slice vb bd2.length vd))).setRow (gq + 1) F2 = c3 at *
 go_wp2_with (first | (refine wpList_load_want rfl 51 _ rfl gx rfl 51 (evl ver2 nonce2 (.slice ua hd2.length uc) (.slice ub bd2.length ud)) (0, 0) _ Rx Tryz.underlying51 rfl (evl_info _ _ hn2 _ _) ?_) | (refine wpList_load_want rfl 51 _ rfl gq rfl 51 (evl ver2 nonce2 (.slice va hd2.length vc) (.slice vb bd2.length vd)) (0, 0) _ Rq Tryz.underlying51 rfl (evl_info _ _ hn2 _ _) ?_) | fail)
 have cX := l_sameEnv ver2 nonce2 hd2 bd2 hn2 _ _ _ _ _ _ _ _ c3 ouh.bys oub.bys ovh.bys ovb.bys
 refine cX.mono ?_
 rintro e_ c4 ⟨rfl, hb⟩
 clear cX ouh oub ovh ovb
 have l_Rf_c4 := lt_of_row Rf
 replace Rf := keep hb Rf
 replace hFu := hFu.keep hb
 replace hw := Below.after hw hb
 have sz_c4 := hb.size
 clear hb
 go_wp2_with (first | (refine wpList_load_want rfl 35 _ rfl (gq + 1) rfl 35 F2 (0, 0) _ Rf Tryz.underlying35 rfl iJ ?_) | fail)
 have cX := l_faulty c4 (hE1.out _ hw) hFu
 refine cX.mono ?_
 rintro e_ c5 ⟨rfl, hb⟩
 replace hw := Below.after hw hb
 clear cX hb
 go_wp2_with (fail)
 go_ret
 exact ⟨rfl, hw⟩
end Go.Proofs.YtjoohgkgkabbpaaGreatDoor

