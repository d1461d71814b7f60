import Derived.Test.YtkogejglfgghmacProg
import Derived.WalkKit
import Derived.WalkSpells
import Derived.WalkLawsBesides
import Derived.Lib.QuietBelow
import Derived.BigQuiet
import Derived.Test.YtkogejglfgghmacKit
import Derived.Test.YtkogejglfgghmacMd
import Derived.Test.YtkogejglfgghmacKit2
import Derived.Test.YtkogejglfgghmacTail
namespace Go.Proofs.Ytkogejglfgghmac
open Go.RowKit Go.Sort
attribute [local go_sem] setCell_drewN alloc_drewN


theorem sstep (d c : Int) (l : 0 ≤ d) (u : d < 4503599627370496) (lc : 0 ≤ c) (uc : c ≤ 4096) : ∃ e c' : Int, (d + c) / 2251799813685248 = c' ∧ bits .and .u64 (d + c) 2251799813685247 = e ∧ Hid (e + 2251799813685248 * c' = d + c) ∧ 0 ≤ c' ∧ c' ≤ 4 ∧ 0 ≤ e ∧ e < 2251799813685248 := by
  rw [and51 _ (by omega) (by omega)]
  exact ⟨_, _, rfl, rfl, by unfold Hid; omega, by omega, by omega, by omega, by omega⟩

theorem least_num (V U X Y t s o : Int) (hU0 : 0 ≤ U) (hU1 : U < 57896044618658097711785492504343953926634992332820282019728792003956564819968) (hX0 : 0 ≤ X) (hX1 : X < 57896044618658097711785492504343953926634992332820282019728792003956564819968) (hY0 : 0 ≤ Y) (hY1 : Y < 57896044618658097711785492504343953926634992332820282019728792003956564819968) (ht0 : 0 ≤ t) (hs0 : 0 ≤ s) (ho0 : 0 ≤ o) (ht : t ≤ 4)
    (h1 : U + 57896044618658097711785492504343953926634992332820282019728792003956564819968 * t = V) (h2 : X + 57896044618658097711785492504343953926634992332820282019728792003956564819968 * s = U + (19 * t + 19)) (h3 : Y + 57896044618658097711785492504343953926634992332820282019728792003956564819968 * o = U + 19 * (t + s)) : Y = V % prm := by
  have hs : s = 0 ∨ s = 1 := by omega
  have ho : o = s := by rcases hs with rfl | rfl <;> omega
  subst ho
  have hY : Y = V - 57896044618658097711785492504343953926634992332820282019728792003956564819949 * (t + o) := by omega
  have hY2 : Y < 57896044618658097711785492504343953926634992332820282019728792003956564819949 := by rcases hs with rfl | rfl <;> omega
  unfold prm
  clear h1 h2 h3 hs
  generalize t + o = k at *
  omega

end Go.Proofs.Ytkogejglfgghmac

