import Derived.Test.YtkpjpdlamojejaaDoorProg
import Derived.WalkKit
import Derived.WalkSpells
import Derived.WalkLawsBesides
import Derived.Lib.QuietBelow
import Derived.BigQuiet
import Derived.Test.YtkpjpdlamojejaaDoorKa
import Derived.Test.YtkpjpdlamojejaaDoorMa
import Derived.Test.YtkpjpdlamojejaaDoorRc
namespace Go.Proofs.YtkpjpdlamojejaaDoor.Lo
set_option maxRecDepth 100000
open Go.RowKit Go.Sort
attribute [local go_sem] setCell_drewN alloc_drewN


structure Row (g : Nat → Int) (D : Array Value) : Prop where
  size : D.size = 16
  cell : ∀ i, i < 16 → D[i]? = some (.int .u64 (g i))
theorem Row.lit {g : Nat → Int} {D : Array Value} (h : Row g D) : D = #[.int .u64 (g 0), .int .u64 (g 1), .int .u64 (g 2), .int .u64 (g 3), .int .u64 (g 4), .int .u64 (g 5), .int .u64 (g 6), .int .u64 (g 7), .int .u64 (g 8), .int .u64 (g 9), .int .u64 (g 10), .int .u64 (g 11), .int .u64 (g 12), .int .u64 (g 13), .int .u64 (g 14), .int .u64 (g 15)] := by
  apply Array.ext_getElem?
  intro i
  by_cases hi : i < 16
  · rw [h.cell i hi]
    rcases (by omega : i = 0 ∨ i = 1 ∨ i = 2 ∨ i = 3 ∨ i = 4 ∨ i = 5 ∨ i = 6 ∨ i = 7 ∨ i = 8 ∨ i = 9 ∨ i = 10 ∨ i = 11 ∨ i = 12 ∨ i = 13 ∨ i = 14 ∨ i = 15) with rfl | rfl | rfl | rfl | rfl | rfl | rfl | rfl | rfl | rfl | rfl | rfl | rfl | rfl | rfl | rfl <;> rfl
  · rw [Array.getElem?_eq_none (by rw [h.size]; omega), Array.getElem?_eq_none (by simp; omega)]
theorem Row.zero : Row (fun _ => 0) #[.int .u64 0, .int .u64 0, .int .u64 0, .int .u64 0, .int .u64 0, .int .u64 0, .int .u64 0, .int .u64 0, .int .u64 0, .int .u64 0, .int .u64 0, .int .u64 0, .int .u64 0, .int .u64 0, .int .u64 0, .int .u64 0] := by
  refine ⟨rfl, fun i hi => ?_⟩
  rcases (by omega : i = 0 ∨ i = 1 ∨ i = 2 ∨ i = 3 ∨ i = 4 ∨ i = 5 ∨ i = 6 ∨ i = 7 ∨ i = 8 ∨ i = 9 ∨ i = 10 ∨ i = 11 ∨ i = 12 ∨ i = 13 ∨ i = 14 ∨ i = 15) with rfl | rfl | rfl | rfl | rfl | rfl | rfl | rfl | rfl | rfl | rfl | rfl | rfl | rfl | rfl | rfl <;> rfl
theorem Row.set {g : Nat → Int} {D : Array Value} (h : Row g D) (k : Nat) (v : Int) (hk : k < 16) : Row (upd g k v) (D.setIfInBounds k (.int .u64 (g k + v))) := by
  refine ⟨by simp [h.size], fun i hi => ?_⟩
  rw [Array.getElem?_setIfInBounds]
  by_cases e : k = i
  · subst e; rw [if_pos rfl, if_pos (by rw [h.size]; exact hk)]; simp [upd]
  · rw [if_neg e, h.cell i hi]; simp only [upd]; rw [if_neg (fun h => e h.symm)]

theorem upd_bd {g : Nat → Int} {c : Nat} (hg : ∀ t, 0 ≤ g t ∧ g t ≤ (c : Nat) * 163203776550) (k : Nat) (v : Int) (h0 : 0 ≤ v) (h1 : v ≤ 163203776550) : ∀ t, 0 ≤ upd g k v t ∧ upd g k v t ≤ ((c + 1 : Nat) : Int) * 163203776550 := by
  intro t
  have := hg t
  simp only [upd]
  split <;> omega
theorem low_step {x y g : Nat → Int} {k l : Nat} (h : ∃ q : Int, sumN 16 g + prm * q = prt x y k l) (hkl : k + l < 16) : ∃ q : Int, sumN 16 (upd g (k + l) (x k * y l)) + prm * q = prt x y k (l + 1) := by
  obtain ⟨q, hq⟩ := h
  exact ⟨q, by rw [sumN_upd _ _ _ _ hkl, prt_step, ← hq]; omega⟩
theorem high_step {x y g : Nat → Int} {k l : Nat} (h : ∃ q : Int, sumN 16 g + prm * q = prt x y k l) (hkl : 16 ≤ k + l) (hk : k < 16) (hl : l < 16) : ∃ q : Int, sumN 16 (upd g (k + l - 16) (38 * (x k * y l))) + prm * q = prt x y k (l + 1) := by
  obtain ⟨q, hq⟩ := h
  obtain ⟨q2, hq2⟩ := pow_wrap (k + l - 16) (x k * y l)
  rw [show k + l - 16 + 16 = k + l from by omega] at hq2
  exact ⟨q + q2, by rw [sumN_upd _ _ _ _ (by omega), prt_step, ← hq, ← hq2, Int.mul_add]; omega⟩

theorem Row.dg (m : Int) : Row (dg m) #[.int .u64 (dg m 0), .int .u64 (dg m 1), .int .u64 (dg m 2), .int .u64 (dg m 3), .int .u64 (dg m 4), .int .u64 (dg m 5), .int .u64 (dg m 6), .int .u64 (dg m 7), .int .u64 (dg m 8), .int .u64 (dg m 9), .int .u64 (dg m 10), .int .u64 (dg m 11), .int .u64 (dg m 12), .int .u64 (dg m 13), .int .u64 (dg m 14), .int .u64 (dg m 15)] := by
  refine ⟨rfl, fun i hi => ?_⟩
  rcases (by omega : i = 0 ∨ i = 1 ∨ i = 2 ∨ i = 3 ∨ i = 4 ∨ i = 5 ∨ i = 6 ∨ i = 7 ∨ i = 8 ∨ i = 9 ∨ i = 10 ∨ i = 11 ∨ i = 12 ∨ i = 13 ∨ i = 14 ∨ i = 15) with rfl | rfl | rfl | rfl | rfl | rfl | rfl | rfl | rfl | rfl | rfl | rfl | rfl | rfl | rfl | rfl <;> rfl
end Go.Proofs.YtkpjpdlamojejaaDoor.Lo


namespace Go.Proofs.YtkpjpdlamojejaaDoor.Lo
set_option maxRecDepth 100000
open Go.RowKit Go.Sort
attribute [local go_sem] setCell_drewN alloc_drewN


set_option maxHeartbeats 1000000 in
theorem small_any (k : Int) (h0 : 0 ≤ k) (h1 : k < 18446744073709551616) (w : World) :
    Calls Tryd.prog 30 #[.int .u64 k] w fun e w' => e = .returned (.agg #[.int .u64 (k % 2251799813685248), .int .u64 (k / 2251799813685248), .int .u64 0, .int .u64 0, .int .u64 0]) ∧ Below w.heap.size w w' := by
  go_enter Tryd.func30, Tryd.ntmps30
  go_wp2
  rw [and51 k h0 h1]
  exact bodyPost_ret (v := .agg #[.int .u64 (k % 2251799813685248), .int .u64 (k / 2251799813685248), .int .u64 0, .int .u64 0, .int .u64 0]) (results_cell_row Tryd.results30 _ _ w.heap.size _ #[.int .u64 (k % 2251799813685248), .int .u64 (k / 2251799813685248), .int .u64 0, .int .u64 0, .int .u64 0] _ _ rfl (hp1_0 w _) Tryd.underlying60 rfl (by kernel_rfl)) rfl ⟨rfl, (Below.refl _ _).alloc (Nat.le_refl _) _⟩
theorem small_val (k : Int) : v5 (k % 2251799813685248) (k / 2251799813685248) 0 0 0 = k := by unfold v5; omega

end Go.Proofs.YtkpjpdlamojejaaDoor.Lo

