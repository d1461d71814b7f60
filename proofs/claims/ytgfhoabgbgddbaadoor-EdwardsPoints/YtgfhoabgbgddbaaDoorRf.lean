import Derived.Test.YtgfhoabgbgddbaaDoorProg
import Derived.WalkKit
import Derived.WalkSpells
import Derived.WalkLawsBesides
import Derived.Lib.QuietBelow
import Derived.BigQuiet
import Derived.Test.YtgfhoabgbgddbaaDoorKa
import Derived.Test.YtgfhoabgbgddbaaDoorMa
import Derived.Test.YtgfhoabgbgddbaaDoorRc
namespace Go.Proofs.YtgfhoabgbgddbaaDoor
set_option maxRecDepth 100000
open Go.RowKit Go.Sort
attribute [local go_sem] setCell_drewN alloc_drewN


structure Row (g : Nat → Int) (D : Array Value) : Prop where
  size : D.size = 16
  cell : ∀ i, i < 16 → D[i]? = some (.int .u64 (g i))
theorem Row.lit {g : Nat → Int} {D : Array Value} (h : Row g D) : D = #[.int .u64 (g 0), .int .u64 (g 1), .int .u64 (g 2), .int .u64 (g 3), .int .u64 (g 4), .int .u64 (g 5), .int .u64 (g 6), .int .u64 (g 7), .int .u64 (g 8), .int .u64 (g 9), .int .u64 (g 10), .int .u64 (g 11), .int .u64 (g 12), .int .u64 (g 13), .int .u64 (g 14), .int .u64 (g 15)] := by
  apply Array.ext_getElem?
  intro i
  by_cases hi : i < 16
  · rw [h.cell i hi]
    rcases (by omega : i = 0 ∨ i = 1 ∨ i = 2 ∨ i = 3 ∨ i = 4 ∨ i = 5 ∨ i = 6 ∨ i = 7 ∨ i = 8 ∨ i = 9 ∨ i = 10 ∨ i = 11 ∨ i = 12 ∨ i = 13 ∨ i = 14 ∨ i = 15) with rfl | rfl | rfl | rfl | rfl | rfl | rfl | rfl | rfl | rfl | rfl | rfl | rfl | rfl | rfl | rfl <;> rfl
  · rw [Array.getElem?_eq_none (by rw [h.size]; omega), Array.getElem?_eq_none (by simp; omega)]
theorem Row.zero : Row (fun _ => 0) #[.int .u64 0, .int .u64 0, .int .u64 0, .int .u64 0, .int .u64 0, .int .u64 0, .int .u64 0, .int .u64 0, .int .u64 0, .int .u64 0, .int .u64 0, .int .u64 0, .int .u64 0, .int .u64 0, .int .u64 0, .int .u64 0] := by
  refine ⟨rfl, fun i hi => ?_⟩
  rcases (by omega : i = 0 ∨ i = 1 ∨ i = 2 ∨ i = 3 ∨ i = 4 ∨ i = 5 ∨ i = 6 ∨ i = 7 ∨ i = 8 ∨ i = 9 ∨ i = 10 ∨ i = 11 ∨ i = 12 ∨ i = 13 ∨ i = 14 ∨ i = 15) with rfl | rfl | rfl | rfl | rfl | rfl | rfl | rfl | rfl | rfl | rfl | rfl | rfl | rfl | rfl | rfl <;> rfl
theorem Row.set {g : Nat → Int} {D : Array Value} (h : Row g D) (k : Nat) (v : Int) (hk : k < 16) : Row (upd g k v) (D.setIfInBounds k (.int .u64 (g k + v))) := by
  refine ⟨by simp [h.size], fun i hi => ?_⟩
  rw [Array.getElem?_setIfInBounds]
  by_cases e : k = i
  · subst e; rw [if_pos rfl, if_pos (by rw [h.size]; exact hk)]; simp [upd]
  · rw [if_neg e, h.cell i hi]; simp only [upd]; rw [if_neg (fun h => e h.symm)]

theorem upd_bd {g : Nat → Int} {c : Nat} (hg : ∀ t, 0 ≤ g t ∧ g t ≤ (c : Nat) * 163203776550) (k : Nat) (v : Int) (h0 : 0 ≤ v) (h1 : v ≤ 163203776550) : ∀ t, 0 ≤ upd g k v t ∧ upd g k v t ≤ ((c + 1 : Nat) : Int) * 163203776550 := by
  intro t
  have := hg t
  simp only [upd]
  split <;> omega
theorem low_step {x y g : Nat → Int} {k l : Nat} (h : ∃ q : Int, sumN 16 g + prm * q = prt x y k l) (hkl : k + l < 16) : ∃ q : Int, sumN 16 (upd g (k + l) (x k * y l)) + prm * q = prt x y k (l + 1) := by
  obtain ⟨q, hq⟩ := h
  exact ⟨q, by rw [sumN_upd _ _ _ _ hkl, prt_step, ← hq]; omega⟩
theorem high_step {x y g : Nat → Int} {k l : Nat} (h : ∃ q : Int, sumN 16 g + prm * q = prt x y k l) (hkl : 16 ≤ k + l) (hk : k < 16) (hl : l < 16) : ∃ q : Int, sumN 16 (upd g (k + l - 16) (38 * (x k * y l))) + prm * q = prt x y k (l + 1) := by
  obtain ⟨q, hq⟩ := h
  obtain ⟨q2, hq2⟩ := pow_wrap (k + l - 16) (x k * y l)
  rw [show k + l - 16 + 16 = k + l from by omega] at hq2
  exact ⟨q + q2, by rw [sumN_upd _ _ _ _ (by omega), prt_step, ← hq, ← hq2, Int.mul_add]; omega⟩

set_option maxHeartbeats 4000000 in
theorem refMul_row (x y : Nat → Int) (hx : ∀ i, 0 ≤ x i ∧ x i < 65536) (hy : ∀ i, 0 ≤ y i ∧ y i < 65536) (CA CB : Array Value) (hA : Row x CA) (hB : Row y CB) (w : World) :
    Calls Tryd.prog 73 #[.agg CA, .agg CB] w fun e w' => e = .returned (.agg #[.int .u64 (dg (sumN 16 x * sumN 16 y % prm) 0), .int .u64 (dg (sumN 16 x * sumN 16 y % prm) 1), .int .u64 (dg (sumN 16 x * sumN 16 y % prm) 2), .int .u64 (dg (sumN 16 x * sumN 16 y % prm) 3), .int .u64 (dg (sumN 16 x * sumN 16 y % prm) 4), .int .u64 (dg (sumN 16 x * sumN 16 y % prm) 5), .int .u64 (dg (sumN 16 x * sumN 16 y % prm) 6), .int .u64 (dg (sumN 16 x * sumN 16 y % prm) 7), .int .u64 (dg (sumN 16 x * sumN 16 y % prm) 8), .int .u64 (dg (sumN 16 x * sumN 16 y % prm) 9), .int .u64 (dg (sumN 16 x * sumN 16 y % prm) 10), .int .u64 (dg (sumN 16 x * sumN 16 y % prm) 11), .int .u64 (dg (sumN 16 x * sumN 16 y % prm) 12), .int .u64 (dg (sumN 16 x * sumN 16 y % prm) 13), .int .u64 (dg (sumN 16 x * sumN 16 y % prm) 14), .int .u64 (dg (sumN 16 x * sumN 16 y % prm) 15)]) ∧ Below w.heap.size w w' := by
  go_enter Tryd.func73, Tryd.ntmps73
  go_wp2
  go_loopw [6, 7] (fun i _ wr => ∃ k : Nat, k ≤ 16 ∧ i = .int .i64 k ∧ ∃ (D : Array Value) (g : Nat → Int) (m : Nat), wr = (((((w.alloc (.cells CA 35)).alloc (.cells CB 35)).alloc (.cells #[.int .u64 0, .int .u64 0, .int .u64 0, .int .u64 0, .int .u64 0, .int .u64 0, .int .u64 0, .int .u64 0, .int .u64 0, .int .u64 0, .int .u64 0, .int .u64 0, .int .u64 0, .int .u64 0, .int .u64 0, .int .u64 0] 35)).alloc (.cells D 33)).drewN m) ∧ Row g D ∧ (∀ t, 0 ≤ g t ∧ g t ≤ (16 * k : Nat) * 163203776550) ∧ Hid (∃ q : Int, sumN 16 g + prm * q = prt x y k 0)) (fun i _ _ => 16 - (intOf i).toNat)
  case atStart => exact ⟨0, by omega, rfl, #[.int .u64 0, .int .u64 0, .int .u64 0, .int .u64 0, .int .u64 0, .int .u64 0, .int .u64 0, .int .u64 0, .int .u64 0, .int .u64 0, .int .u64 0, .int .u64 0, .int .u64 0, .int .u64 0, .int .u64 0, .int .u64 0], fun _ => 0, 0, rfl, Row.zero, fun t => by simp, ⟨0, by rw [prt_zero]; simp [sumN]⟩⟩
  case round =>
    obtain ⟨k, hk, rfl, D, g, m, rfl, hD, hg, HV⟩ := hrel
    by_cases hlt : k < 16
    · have hd : decide ((k : Int) < 16) = true := by simp; omega
      have hax := hA.cell k hlt
      obtain ⟨ax0, ax1⟩ := hx k
      go_wp2
      go_loopw [7] (fun j wr => ∃ l : Nat, l ≤ 16 ∧ j = .int .i64 l ∧ ∃ (D : Array Value) (g : Nat → Int) (m : Nat), wr = (((((w.alloc (.cells CA 35)).alloc (.cells CB 35)).alloc (.cells #[.int .u64 0, .int .u64 0, .int .u64 0, .int .u64 0, .int .u64 0, .int .u64 0, .int .u64 0, .int .u64 0, .int .u64 0, .int .u64 0, .int .u64 0, .int .u64 0, .int .u64 0, .int .u64 0, .int .u64 0, .int .u64 0] 35)).alloc (.cells D 33)).drewN m) ∧ Row g D ∧ (∀ t, 0 ≤ g t ∧ g t ≤ (16 * k + l : Nat) * 163203776550) ∧ Hid (∃ q : Int, sumN 16 g + prm * q = prt x y k l)) (fun j _ => 16 - (intOf j).toNat)
      case atStart => exact ⟨0, by omega, rfl, D, g, m, rfl, hD, hg, HV⟩
      case round =>
        clear HV hg hD
        obtain ⟨l, hl, rfl, D, g, m, rfl, hD, hg, HV⟩ := hrel
        by_cases hll : l < 16
        · have hd2 : decide ((l : Int) < 16) = true := by simp; omega
          have hby := hB.cell l hll
          obtain ⟨by0, by1⟩ := hy l
          obtain ⟨pp0, pp1⟩ := mul38 (x k) (y l) ax0 ax1 by0 by1
          by_cases hkl : k + l < 16
          · have hdd := hD.cell (k + l) hkl
            have hn : ((k : Int) + (l : Int)).toNat = k + l := by omega
            have hd3 : decide ((k : Int) + (l : Int) < 16) = true := by simp; omega
            obtain ⟨gg0, gg1⟩ := hg (k + l)
            have gg2 : g (k + l) ≤ 41780166796800 := by omega
            have Hg := hide hg; clear hg gg1
            go_wp2
            go_quiet (fail)
            go_wp2
            go_roundw
            case rel => exact ⟨l + 1, by omega, by go_num, _, _, _, rfl, hD.set (k + l) (x k * y l) hkl, upd_bd Hg.out (k + l) (x k * y l) pp0 (by omega), low_step HV.out hkl⟩
            case measure => simp [intOf]; omega
          · have hdd := hD.cell (k + l - 16) (by omega)
            have hn : ((k : Int) + (l : Int) - 16).toNat = k + l - 16 := by omega
            have hd3 : decide ((k : Int) + (l : Int) < 16) = false := by simp; omega
            obtain ⟨gg0, gg1⟩ := hg (k + l - 16)
            have gg2 : g (k + l - 16) ≤ 41780166796800 := by omega
            have Hg := hide hg; clear hg gg1
            go_wp2
            go_quiet (fail)
            go_wp2
            go_roundw
            case rel => exact ⟨l + 1, by omega, by go_num, _, _, _, rfl, hD.set (k + l - 16) (38 * (x k * y l)) (by omega), upd_bd Hg.out (k + l - 16) (38 * (x k * y l)) (by omega) (by omega), high_step HV.out (by omega) hlt hll⟩
            case measure => simp [intOf]; omega
        · obtain rfl : l = 16 := by omega
          have hd2 : decide (((16 : Nat) : Int) < 16) = false := by decide
          go_wp2
          go_roundw
          case rel => exact ⟨k + 1, by omega, by go_num, D, g, m, rfl, hD, hg, by rw [prt_next]; exact HV⟩
          case measure => simp [intOf]; omega
    · obtain rfl : k = 16 := by omega
      obtain ⟨q, hq⟩ := HV.out
      have HQ := hide hq; clear hq HV hA hB hx hy
      obtain rfl := hD.lit
      obtain ⟨lo0, hi0⟩ := hg 0; obtain ⟨lo1, hi1⟩ := hg 1; obtain ⟨lo2, hi2⟩ := hg 2; obtain ⟨lo3, hi3⟩ := hg 3; obtain ⟨lo4, hi4⟩ := hg 4; obtain ⟨lo5, hi5⟩ := hg 5; obtain ⟨lo6, hi6⟩ := hg 6; obtain ⟨lo7, hi7⟩ := hg 7; obtain ⟨lo8, hi8⟩ := hg 8; obtain ⟨lo9, hi9⟩ := hg 9; obtain ⟨lo10, hi10⟩ := hg 10; obtain ⟨lo11, hi11⟩ := hg 11; obtain ⟨lo12, hi12⟩ := hg 12; obtain ⟨lo13, hi13⟩ := hg 13; obtain ⟨lo14, hi14⟩ := hg 14; obtain ⟨lo15, hi15⟩ := hg 15
      clear hg hD
      go_wp2_with (first | (refine wpList_load_row rfl 33 _ rfl (w.heap.size + 1 + 1 + 1) rfl 33 #[.int .u64 (g 0), .int .u64 (g 1), .int .u64 (g 2), .int .u64 (g 3), .int .u64 (g 4), .int .u64 (g 5), .int .u64 (g 6), .int .u64 (g 7), .int .u64 (g 8), .int .u64 (g 9), .int .u64 (g 10), .int .u64 (g 11), .int .u64 (g 12), .int .u64 (g 13), .int .u64 (g 14), .int .u64 (g 15)] (0, 0) _ (by rw [World.heap_drewN, hp4_3]) Tryd.underlying33 rfl (by kernel_rfl) ?_) | fail)
      refine (settle_any (g 0) (g 1) (g 2) (g 3) (g 4) (g 5) (g 6) (g 7) (g 8) (g 9) (g 10) (g 11) (g 12) (g 13) (g 14) (g 15) lo0 (by omega) lo1 (by omega) lo2 (by omega) lo3 (by omega) lo4 (by omega) lo5 (by omega) lo6 (by omega) lo7 (by omega) lo8 (by omega) lo9 (by omega) lo10 (by omega) lo11 (by omega) lo12 (by omega) lo13 (by omega) lo14 (by omega) lo15 (by omega) _).mono ?_
      rintro e w1 ⟨rfl, hb⟩
      rw [← sumN_v16, mod_of_sum HQ.out, prt_end]
      have rZ : w1.heap[w.heap.size + 1 + 1]? = some (.cells #[.int .u64 0, .int .u64 0, .int .u64 0, .int .u64 0, .int .u64 0, .int .u64 0, .int .u64 0, .int .u64 0, .int .u64 0, .int .u64 0, .int .u64 0, .int .u64 0, .int .u64 0, .int .u64 0, .int .u64 0, .int .u64 0] 35 (0, 0)) := (hb.block _ (by simp)).trans (by rw [World.heap_drewN, hp4_2])
      have hbw : Below w.heap.size w w1 := (below_drN (((((Below.refl _ _).alloc (Nat.le_refl _) _).alloc (by simp) _).alloc (by simp; omega) _).alloc (by simp; omega) _) _).trans (hb.mono (by simp; omega))
      clear hb HQ
      go_wp2_with (first | (refine wpList_store_row rfl 35 _ _ rfl (w.heap.size + 1 + 1) #[.int .u64 (dg (sumN 16 x * sumN 16 y % prm) 0), .int .u64 (dg (sumN 16 x * sumN 16 y % prm) 1), .int .u64 (dg (sumN 16 x * sumN 16 y % prm) 2), .int .u64 (dg (sumN 16 x * sumN 16 y % prm) 3), .int .u64 (dg (sumN 16 x * sumN 16 y % prm) 4), .int .u64 (dg (sumN 16 x * sumN 16 y % prm) 5), .int .u64 (dg (sumN 16 x * sumN 16 y % prm) 6), .int .u64 (dg (sumN 16 x * sumN 16 y % prm) 7), .int .u64 (dg (sumN 16 x * sumN 16 y % prm) 8), .int .u64 (dg (sumN 16 x * sumN 16 y % prm) 9), .int .u64 (dg (sumN 16 x * sumN 16 y % prm) 10), .int .u64 (dg (sumN 16 x * sumN 16 y % prm) 11), .int .u64 (dg (sumN 16 x * sumN 16 y % prm) 12), .int .u64 (dg (sumN 16 x * sumN 16 y % prm) 13), .int .u64 (dg (sumN 16 x * sumN 16 y % prm) 14), .int .u64 (dg (sumN 16 x * sumN 16 y % prm) 15)] rfl rfl 35 _ rZ (by kernel_rfl) rfl (by kernel_rfl) ?_) | fail)
      exact bodyPost_ret (v := .agg #[.int .u64 (dg (sumN 16 x * sumN 16 y % prm) 0), .int .u64 (dg (sumN 16 x * sumN 16 y % prm) 1), .int .u64 (dg (sumN 16 x * sumN 16 y % prm) 2), .int .u64 (dg (sumN 16 x * sumN 16 y % prm) 3), .int .u64 (dg (sumN 16 x * sumN 16 y % prm) 4), .int .u64 (dg (sumN 16 x * sumN 16 y % prm) 5), .int .u64 (dg (sumN 16 x * sumN 16 y % prm) 6), .int .u64 (dg (sumN 16 x * sumN 16 y % prm) 7), .int .u64 (dg (sumN 16 x * sumN 16 y % prm) 8), .int .u64 (dg (sumN 16 x * sumN 16 y % prm) 9), .int .u64 (dg (sumN 16 x * sumN 16 y % prm) 10), .int .u64 (dg (sumN 16 x * sumN 16 y % prm) 11), .int .u64 (dg (sumN 16 x * sumN 16 y % prm) 12), .int .u64 (dg (sumN 16 x * sumN 16 y % prm) 13), .int .u64 (dg (sumN 16 x * sumN 16 y % prm) 14), .int .u64 (dg (sumN 16 x * sumN 16 y % prm) 15)]) (results_cell_row Tryd.results73 _ _ (w.heap.size + 1 + 1) _ #[.int .u64 (dg (sumN 16 x * sumN 16 y % prm) 0), .int .u64 (dg (sumN 16 x * sumN 16 y % prm) 1), .int .u64 (dg (sumN 16 x * sumN 16 y % prm) 2), .int .u64 (dg (sumN 16 x * sumN 16 y % prm) 3), .int .u64 (dg (sumN 16 x * sumN 16 y % prm) 4), .int .u64 (dg (sumN 16 x * sumN 16 y % prm) 5), .int .u64 (dg (sumN 16 x * sumN 16 y % prm) 6), .int .u64 (dg (sumN 16 x * sumN 16 y % prm) 7), .int .u64 (dg (sumN 16 x * sumN 16 y % prm) 8), .int .u64 (dg (sumN 16 x * sumN 16 y % prm) 9), .int .u64 (dg (sumN 16 x * sumN 16 y % prm) 10), .int .u64 (dg (sumN 16 x * sumN 16 y % prm) 11), .int .u64 (dg (sumN 16 x * sumN 16 y % prm) 12), .int .u64 (dg (sumN 16 x * sumN 16 y % prm) 13), .int .u64 (dg (sumN 16 x * sumN 16 y % prm) 14), .int .u64 (dg (sumN 16 x * sumN 16 y % prm) 15)] _ _ rfl (setRow_heap _ _ _ _ _ _ rZ) Tryd.underlying35 rfl (by kernel_rfl)) rfl ⟨rfl, below_setRow hbw (by omega) _⟩

theorem Row.dg (m : Int) : Row (dg m) #[.int .u64 (dg m 0), .int .u64 (dg m 1), .int .u64 (dg m 2), .int .u64 (dg m 3), .int .u64 (dg m 4), .int .u64 (dg m 5), .int .u64 (dg m 6), .int .u64 (dg m 7), .int .u64 (dg m 8), .int .u64 (dg m 9), .int .u64 (dg m 10), .int .u64 (dg m 11), .int .u64 (dg m 12), .int .u64 (dg m 13), .int .u64 (dg m 14), .int .u64 (dg m 15)] := by
  refine ⟨rfl, fun i hi => ?_⟩
  rcases (by omega : i = 0 ∨ i = 1 ∨ i = 2 ∨ i = 3 ∨ i = 4 ∨ i = 5 ∨ i = 6 ∨ i = 7 ∨ i = 8 ∨ i = 9 ∨ i = 10 ∨ i = 11 ∨ i = 12 ∨ i = 13 ∨ i = 14 ∨ i = 15) with rfl | rfl | rfl | rfl | rfl | rfl | rfl | rfl | rfl | rfl | rfl | rfl | rfl | rfl | rfl | rfl <;> rfl
theorem refMul_dg (m k : Int) (hm0 : 0 ≤ m) (hm : m < prm) (hk0 : 0 ≤ k) (hk : k < prm) (w : World) :
    Calls Tryd.prog 73 #[.agg #[.int .u64 (dg m 0), .int .u64 (dg m 1), .int .u64 (dg m 2), .int .u64 (dg m 3), .int .u64 (dg m 4), .int .u64 (dg m 5), .int .u64 (dg m 6), .int .u64 (dg m 7), .int .u64 (dg m 8), .int .u64 (dg m 9), .int .u64 (dg m 10), .int .u64 (dg m 11), .int .u64 (dg m 12), .int .u64 (dg m 13), .int .u64 (dg m 14), .int .u64 (dg m 15)], .agg #[.int .u64 (dg k 0), .int .u64 (dg k 1), .int .u64 (dg k 2), .int .u64 (dg k 3), .int .u64 (dg k 4), .int .u64 (dg k 5), .int .u64 (dg k 6), .int .u64 (dg k 7), .int .u64 (dg k 8), .int .u64 (dg k 9), .int .u64 (dg k 10), .int .u64 (dg k 11), .int .u64 (dg k 12), .int .u64 (dg k 13), .int .u64 (dg k 14), .int .u64 (dg k 15)]] w fun e w' => e = .returned (.agg #[.int .u64 (dg (m * k % prm) 0), .int .u64 (dg (m * k % prm) 1), .int .u64 (dg (m * k % prm) 2), .int .u64 (dg (m * k % prm) 3), .int .u64 (dg (m * k % prm) 4), .int .u64 (dg (m * k % prm) 5), .int .u64 (dg (m * k % prm) 6), .int .u64 (dg (m * k % prm) 7), .int .u64 (dg (m * k % prm) 8), .int .u64 (dg (m * k % prm) 9), .int .u64 (dg (m * k % prm) 10), .int .u64 (dg (m * k % prm) 11), .int .u64 (dg (m * k % prm) 12), .int .u64 (dg (m * k % prm) 13), .int .u64 (dg (m * k % prm) 14), .int .u64 (dg (m * k % prm) 15)]) ∧ Below w.heap.size w w' := by
  have h := refMul_row (Go.Proofs.YtgfhoabgbgddbaaDoor.dg m) (Go.Proofs.YtgfhoabgbgddbaaDoor.dg k) (dg_bd m) (dg_bd k) _ _ (Row.dg m) (Row.dg k) w
  rw [sumN_dg m hm0 (by unfold prm at hm; omega), sumN_dg k hk0 (by unfold prm at hk; omega)] at h
  exact h

end Go.Proofs.YtgfhoabgbgddbaaDoor

