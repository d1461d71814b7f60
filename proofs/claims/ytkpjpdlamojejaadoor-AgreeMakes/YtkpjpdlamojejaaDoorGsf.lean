import Derived.Test.YtkpjpdlamojejaaDoorProg
import Derived.WalkKit
import Derived.WalkSpells
import Derived.WalkLawsBesides
import Derived.Lib.QuietBelow
import Derived.BigQuiet
import Derived.Test.YtkpjpdlamojejaaDoorKa
import Derived.Test.YtkpjpdlamojejaaDoorAbe
import Derived.Laws.BitsAllLaws
import Derived.Test.YtkpjpdlamojejaaDoorAa7
namespace Go.Proofs.YtkpjpdlamojejaaDoor.Lo
set_option maxRecDepth 100000
open Go.RowKit Go.Sort
attribute [local go_sem] setCell_drewN alloc_drewN


theorem xor_bd (x y : Int) (h1 : 0 ≤ x) (h2 : x < 18446744073709551616) (h3 : 0 ≤ y) (h4 : y < 18446744073709551616) : 0 ≤ bits .xor .u64 x y ∧ bits .xor .u64 x y < 18446744073709551616 := by
  rw [u64_xor x y h1 h2 h3 h4]
  have := Nat.xor_lt_two_pow (n := 64) (x := x.toNat) (y := y.toNat) (by omega) (by omega)
  omega
theorem xor_back (x y : Int) (h1 : 0 ≤ x) (h2 : x < 18446744073709551616) (h3 : 0 ≤ y) (h4 : y < 18446744073709551616) : bits .xor .u64 x (bits .xor .u64 x y) = y := by
  obtain ⟨l, u⟩ := xor_bd x y h1 h2 h3 h4
  rw [u64_xor x _ h1 h2 l u, u64_xor x y h1 h2 h3 h4, Int.toNat_natCast, ← Nat.xor_assoc, Nat.xor_self, Nat.zero_xor]
  omega
theorem xor_back' (x y : Int) (h1 : 0 ≤ x) (h2 : x < 18446744073709551616) (h3 : 0 ≤ y) (h4 : y < 18446744073709551616) : bits .xor .u64 y (bits .xor .u64 x y) = x := by
  obtain ⟨l, u⟩ := xor_bd x y h1 h2 h3 h4
  rw [u64_xor y _ h3 h4 l u, u64_xor x y h1 h2 h3 h4, Int.toNat_natCast, Nat.xor_comm x.toNat, ← Nat.xor_assoc, Nat.xor_self, Nat.zero_xor]
  omega
theorem xor_none (x : Int) (h1 : 0 ≤ x) (h2 : x < 18446744073709551616) : bits .xor .u64 x 0 = x := by
  rw [u64_xor x 0 h1 h2 (by decide) (by decide), Int.toNat_zero, Nat.xor_zero]
  omega
theorem and_none (x : Int) (h1 : 0 ≤ x) (h2 : x < 18446744073709551616) : bits .and .u64 x 0 = 0 := by
  rw [u64_and x 0 h1 h2 (by decide) (by decide), Int.toNat_zero, Nat.and_zero]
  rfl
theorem and_all (x : Int) (h1 : 0 ≤ x) (h2 : x < 18446744073709551616) : bits .and .u64 x 18446744073709551615 = x := by
  rw [u64_and x 18446744073709551615 h1 h2 (by decide) (by decide)]
  have e : (18446744073709551615 : Int).toNat = 2 ^ 64 - 1 := by decide
  rw [e, Nat.and_two_pow_sub_one_eq_mod]
  omega


set_option maxHeartbeats 4000000 in
theorem a_swap {r s : Array Value} {x y : Int} (h : NumOf r x) (g : NumOf s y) (on : Bool) : Gives 45 #[.agg r, .agg s, .bool on] (.tuple #[.agg (if on then s else r), .agg (if on then r else s)]) := by
  have hA := h; have hB := g
  obtain ⟨a0, a1, a2, a3, a4, rfl, ⟨h0, h1, h2, h3, h4⟩, ha⟩ := h
  obtain ⟨b0, b1, b2, b3, b4, rfl, ⟨g0, g1, g2, g3, g4⟩, hb⟩ := g
  intro w
  cases on
  · have e0 : bits .and .u64 (bits .xor .u64 a0 b0) 0 = 0 := and_none _ (xor_bd a0 b0 h0.1 (by omega) g0.1 (by omega)).1 (xor_bd a0 b0 h0.1 (by omega) g0.1 (by omega)).2
    have i0 := xor_none a0 h0.1 (by omega)
    have j0 := xor_none b0 g0.1 (by omega)
    have e1 : bits .and .u64 (bits .xor .u64 a1 b1) 0 = 0 := and_none _ (xor_bd a1 b1 h1.1 (by omega) g1.1 (by omega)).1 (xor_bd a1 b1 h1.1 (by omega) g1.1 (by omega)).2
    have i1 := xor_none a1 h1.1 (by omega)
    have j1 := xor_none b1 g1.1 (by omega)
    have e2 : bits .and .u64 (bits .xor .u64 a2 b2) 0 = 0 := and_none _ (xor_bd a2 b2 h2.1 (by omega) g2.1 (by omega)).1 (xor_bd a2 b2 h2.1 (by omega) g2.1 (by omega)).2
    have i2 := xor_none a2 h2.1 (by omega)
    have j2 := xor_none b2 g2.1 (by omega)
    have e3 : bits .and .u64 (bits .xor .u64 a3 b3) 0 = 0 := and_none _ (xor_bd a3 b3 h3.1 (by omega) g3.1 (by omega)).1 (xor_bd a3 b3 h3.1 (by omega) g3.1 (by omega)).2
    have i3 := xor_none a3 h3.1 (by omega)
    have j3 := xor_none b3 g3.1 (by omega)
    have e4 : bits .and .u64 (bits .xor .u64 a4 b4) 0 = 0 := and_none _ (xor_bd a4 b4 h4.1 (by omega) g4.1 (by omega)).1 (xor_bd a4 b4 h4.1 (by omega) g4.1 (by omega)).2
    have i4 := xor_none a4 h4.1 (by omega)
    have j4 := xor_none b4 g4.1 (by omega)
    clear h0 g0 h1 g1 h2 g2 h3 g3 h4 g4 ha hb
    go_enter Tryd.func45, Tryd.ntmps45
    go_wp2
    refine wp_loop_rounds 6 ?_
    rw [rounds_succ]
    go_wp2
    go_quiet (fail)
    go_wp2
    rw [rounds_succ]
    go_wp2
    go_quiet (fail)
    go_wp2
    rw [rounds_succ]
    go_wp2
    go_quiet (fail)
    go_wp2
    rw [rounds_succ]
    go_wp2
    go_quiet (fail)
    go_wp2
    rw [rounds_succ]
    go_wp2
    go_quiet (fail)
    go_wp2
    rw [rounds_succ]
    go_wp2
    have rp0 : ∀ k, (((((w.alloc (.cells #[.int .u64 a0, .int .u64 a1, .int .u64 a2, .int .u64 a3, .int .u64 a4] 60)).alloc (.cells #[.int .u64 b0, .int .u64 b1, .int .u64 b2, .int .u64 b3, .int .u64 b4] 60)).alloc (.cells #[.int .u64 0, .int .u64 0, .int .u64 0, .int .u64 0, .int .u64 0] 60)).alloc (.cells #[.int .u64 0, .int .u64 0, .int .u64 0, .int .u64 0, .int .u64 0] 60)).drewN k).heap[w.heap.size]? = some (.cells #[.int .u64 a0, .int .u64 a1, .int .u64 a2, .int .u64 a3, .int .u64 a4] 60 (0, 0)) := fun k => by rw [World.heap_drewN]; exact hp4_0 w _ _ _ _
    have rp1 : ∀ k, (((((w.alloc (.cells #[.int .u64 a0, .int .u64 a1, .int .u64 a2, .int .u64 a3, .int .u64 a4] 60)).alloc (.cells #[.int .u64 b0, .int .u64 b1, .int .u64 b2, .int .u64 b3, .int .u64 b4] 60)).alloc (.cells #[.int .u64 0, .int .u64 0, .int .u64 0, .int .u64 0, .int .u64 0] 60)).alloc (.cells #[.int .u64 0, .int .u64 0, .int .u64 0, .int .u64 0, .int .u64 0] 60)).drewN k).heap[w.heap.size + 1]? = some (.cells #[.int .u64 b0, .int .u64 b1, .int .u64 b2, .int .u64 b3, .int .u64 b4] 60 (0, 0)) := fun k => by rw [World.heap_drewN]; exact hp4_1 w _ _ _ _
    have rp2 : ∀ k, (((((w.alloc (.cells #[.int .u64 a0, .int .u64 a1, .int .u64 a2, .int .u64 a3, .int .u64 a4] 60)).alloc (.cells #[.int .u64 b0, .int .u64 b1, .int .u64 b2, .int .u64 b3, .int .u64 b4] 60)).alloc (.cells #[.int .u64 0, .int .u64 0, .int .u64 0, .int .u64 0, .int .u64 0] 60)).alloc (.cells #[.int .u64 0, .int .u64 0, .int .u64 0, .int .u64 0, .int .u64 0] 60)).drewN k).heap[w.heap.size + 1 + 1]? = some (.cells #[.int .u64 0, .int .u64 0, .int .u64 0, .int .u64 0, .int .u64 0] 60 (0, 0)) := fun k => by rw [World.heap_drewN]; exact hp4_2 w _ _ _ _
    have rp3 : ∀ k, (((((w.alloc (.cells #[.int .u64 a0, .int .u64 a1, .int .u64 a2, .int .u64 a3, .int .u64 a4] 60)).alloc (.cells #[.int .u64 b0, .int .u64 b1, .int .u64 b2, .int .u64 b3, .int .u64 b4] 60)).alloc (.cells #[.int .u64 0, .int .u64 0, .int .u64 0, .int .u64 0, .int .u64 0] 60)).alloc (.cells #[.int .u64 0, .int .u64 0, .int .u64 0, .int .u64 0, .int .u64 0] 60)).drewN k).heap[w.heap.size + 1 + 1 + 1]? = some (.cells #[.int .u64 0, .int .u64 0, .int .u64 0, .int .u64 0, .int .u64 0] 60 (0, 0)) := fun k => by rw [World.heap_drewN]; exact hp4_3 w _ _ _ _
    have hw : ∀ k, Below w.heap.size w (((((w.alloc (.cells #[.int .u64 a0, .int .u64 a1, .int .u64 a2, .int .u64 a3, .int .u64 a4] 60)).alloc (.cells #[.int .u64 b0, .int .u64 b1, .int .u64 b2, .int .u64 b3, .int .u64 b4] 60)).alloc (.cells #[.int .u64 0, .int .u64 0, .int .u64 0, .int .u64 0, .int .u64 0] 60)).alloc (.cells #[.int .u64 0, .int .u64 0, .int .u64 0, .int .u64 0, .int .u64 0] 60)).drewN k) := fun k => below_drN (((((Below.refl _ _).alloc (Nat.le_refl _) _).alloc (by simp) _).alloc (by simp; omega) _).alloc (by simp; omega) _) k
    refine wp_region_pair (by kernel_rfl) (by kernel_rfl) (by kernel_rfl) (by kernel_rfl) (by kernel_rfl) (by kernel_rfl) (by kernel_rfl) (by kernel_rfl) 60 60 _ _ _ _ 43 44 rfl rfl rfl rfl rfl rfl rfl rfl rfl rfl rfl rfl (w.heap.size) (w.heap.size + 1) (w.heap.size + 1 + 1) (w.heap.size + 1 + 1 + 1) #[.int .u64 a0, .int .u64 a1, .int .u64 a2, .int .u64 a3, .int .u64 a4] #[.int .u64 b0, .int .u64 b1, .int .u64 b2, .int .u64 b3, .int .u64 b4] #[.int .u64 0, .int .u64 0, .int .u64 0, .int .u64 0, .int .u64 0] #[.int .u64 0, .int .u64 0, .int .u64 0, .int .u64 0, .int .u64 0] 60 60 60 60 (0, 0) (0, 0) _ _ _ (rp0 _) (rp1 _) (rp2 _) (rp3 _) (by omega) (by omega) Tryd.underlying60 rfl hA.info rfl hA.one Tryd.underlying60 rfl hB.info rfl hB.one rfl rfl rfl rfl rfl rfl rfl rfl rfl rfl rfl rfl ?_
    intro w1 hb
    replace rp2 := keep hb (rp2 _)
    replace rp3 := keep hb (rp3 _)
    replace hw := Below.after (hw _) hb
    clear rp0 rp1 hb
    go_wp2
    exact bodyPost_ret (v := .tuple #[.agg #[.int .u64 a0, .int .u64 a1, .int .u64 a2, .int .u64 a3, .int .u64 a4], .agg #[.int .u64 b0, .int .u64 b1, .int .u64 b2, .int .u64 b3, .int .u64 b4]]) (results_rows2 Tryd.results45 _ _ (w.heap.size + 1 + 1) (w.heap.size + 1 + 1 + 1) _ _ #[.int .u64 a0, .int .u64 a1, .int .u64 a2, .int .u64 a3, .int .u64 a4] #[.int .u64 b0, .int .u64 b1, .int .u64 b2, .int .u64 b3, .int .u64 b4] _ _ _ _ rfl ((setRow_other _ (w.heap.size + 1 + 1 + 1) (w.heap.size + 1 + 1) _ (by omega)).trans (setRow_heap _ _ _ _ _ _ rp2)) rfl (setRow_heap _ _ _ _ _ _ ((setRow_other w1 (w.heap.size + 1 + 1) (w.heap.size + 1 + 1 + 1) _ (by omega)).trans rp3)) Tryd.underlying60 rfl hA.info Tryd.underlying60 rfl hB.info) rfl ⟨rfl, below_setRow (below_setRow hw (by omega) _) (by omega) _⟩
  · have e0 : bits .and .u64 (bits .xor .u64 a0 b0) 18446744073709551615 = bits .xor .u64 a0 b0 := and_all _ (xor_bd a0 b0 h0.1 (by omega) g0.1 (by omega)).1 (xor_bd a0 b0 h0.1 (by omega) g0.1 (by omega)).2
    have i0 := xor_back a0 b0 h0.1 (by omega) g0.1 (by omega)
    have j0 := xor_back' a0 b0 h0.1 (by omega) g0.1 (by omega)
    have e1 : bits .and .u64 (bits .xor .u64 a1 b1) 18446744073709551615 = bits .xor .u64 a1 b1 := and_all _ (xor_bd a1 b1 h1.1 (by omega) g1.1 (by omega)).1 (xor_bd a1 b1 h1.1 (by omega) g1.1 (by omega)).2
    have i1 := xor_back a1 b1 h1.1 (by omega) g1.1 (by omega)
    have j1 := xor_back' a1 b1 h1.1 (by omega) g1.1 (by omega)
    have e2 : bits .and .u64 (bits .xor .u64 a2 b2) 18446744073709551615 = bits .xor .u64 a2 b2 := and_all _ (xor_bd a2 b2 h2.1 (by omega) g2.1 (by omega)).1 (xor_bd a2 b2 h2.1 (by omega) g2.1 (by omega)).2
    have i2 := xor_back a2 b2 h2.1 (by omega) g2.1 (by omega)
    have j2 := xor_back' a2 b2 h2.1 (by omega) g2.1 (by omega)
    have e3 : bits .and .u64 (bits .xor .u64 a3 b3) 18446744073709551615 = bits .xor .u64 a3 b3 := and_all _ (xor_bd a3 b3 h3.1 (by omega) g3.1 (by omega)).1 (xor_bd a3 b3 h3.1 (by omega) g3.1 (by omega)).2
    have i3 := xor_back a3 b3 h3.1 (by omega) g3.1 (by omega)
    have j3 := xor_back' a3 b3 h3.1 (by omega) g3.1 (by omega)
    have e4 : bits .and .u64 (bits .xor .u64 a4 b4) 18446744073709551615 = bits .xor .u64 a4 b4 := and_all _ (xor_bd a4 b4 h4.1 (by omega) g4.1 (by omega)).1 (xor_bd a4 b4 h4.1 (by omega) g4.1 (by omega)).2
    have i4 := xor_back a4 b4 h4.1 (by omega) g4.1 (by omega)
    have j4 := xor_back' a4 b4 h4.1 (by omega) g4.1 (by omega)
    clear h0 g0 h1 g1 h2 g2 h3 g3 h4 g4 ha hb
    go_enter Tryd.func45, Tryd.ntmps45
    go_wp2
    refine wp_loop_rounds 6 ?_
    rw [rounds_succ]
    go_wp2
    go_quiet (fail)
    go_wp2
    rw [rounds_succ]
    go_wp2
    go_quiet (fail)
    go_wp2
    rw [rounds_succ]
    go_wp2
    go_quiet (fail)
    go_wp2
    rw [rounds_succ]
    go_wp2
    go_quiet (fail)
    go_wp2
    rw [rounds_succ]
    go_wp2
    go_quiet (fail)
    go_wp2
    rw [rounds_succ]
    go_wp2
    have rp0 : ∀ k, (((((w.alloc (.cells #[.int .u64 b0, .int .u64 b1, .int .u64 b2, .int .u64 b3, .int .u64 b4] 60)).alloc (.cells #[.int .u64 a0, .int .u64 a1, .int .u64 a2, .int .u64 a3, .int .u64 a4] 60)).alloc (.cells #[.int .u64 0, .int .u64 0, .int .u64 0, .int .u64 0, .int .u64 0] 60)).alloc (.cells #[.int .u64 0, .int .u64 0, .int .u64 0, .int .u64 0, .int .u64 0] 60)).drewN k).heap[w.heap.size]? = some (.cells #[.int .u64 b0, .int .u64 b1, .int .u64 b2, .int .u64 b3, .int .u64 b4] 60 (0, 0)) := fun k => by rw [World.heap_drewN]; exact hp4_0 w _ _ _ _
    have rp1 : ∀ k, (((((w.alloc (.cells #[.int .u64 b0, .int .u64 b1, .int .u64 b2, .int .u64 b3, .int .u64 b4] 60)).alloc (.cells #[.int .u64 a0, .int .u64 a1, .int .u64 a2, .int .u64 a3, .int .u64 a4] 60)).alloc (.cells #[.int .u64 0, .int .u64 0, .int .u64 0, .int .u64 0, .int .u64 0] 60)).alloc (.cells #[.int .u64 0, .int .u64 0, .int .u64 0, .int .u64 0, .int .u64 0] 60)).drewN k).heap[w.heap.size + 1]? = some (.cells #[.int .u64 a0, .int .u64 a1, .int .u64 a2, .int .u64 a3, .int .u64 a4] 60 (0, 0)) := fun k => by rw [World.heap_drewN]; exact hp4_1 w _ _ _ _
    have rp2 : ∀ k, (((((w.alloc (.cells #[.int .u64 b0, .int .u64 b1, .int .u64 b2, .int .u64 b3, .int .u64 b4] 60)).alloc (.cells #[.int .u64 a0, .int .u64 a1, .int .u64 a2, .int .u64 a3, .int .u64 a4] 60)).alloc (.cells #[.int .u64 0, .int .u64 0, .int .u64 0, .int .u64 0, .int .u64 0] 60)).alloc (.cells #[.int .u64 0, .int .u64 0, .int .u64 0, .int .u64 0, .int .u64 0] 60)).drewN k).heap[w.heap.size + 1 + 1]? = some (.cells #[.int .u64 0, .int .u64 0, .int .u64 0, .int .u64 0, .int .u64 0] 60 (0, 0)) := fun k => by rw [World.heap_drewN]; exact hp4_2 w _ _ _ _
    have rp3 : ∀ k, (((((w.alloc (.cells #[.int .u64 b0, .int .u64 b1, .int .u64 b2, .int .u64 b3, .int .u64 b4] 60)).alloc (.cells #[.int .u64 a0, .int .u64 a1, .int .u64 a2, .int .u64 a3, .int .u64 a4] 60)).alloc (.cells #[.int .u64 0, .int .u64 0, .int .u64 0, .int .u64 0, .int .u64 0] 60)).alloc (.cells #[.int .u64 0, .int .u64 0, .int .u64 0, .int .u64 0, .int .u64 0] 60)).drewN k).heap[w.heap.size + 1 + 1 + 1]? = some (.cells #[.int .u64 0, .int .u64 0, .int .u64 0, .int .u64 0, .int .u64 0] 60 (0, 0)) := fun k => by rw [World.heap_drewN]; exact hp4_3 w _ _ _ _
    have hw : ∀ k, Below w.heap.size w (((((w.alloc (.cells #[.int .u64 b0, .int .u64 b1, .int .u64 b2, .int .u64 b3, .int .u64 b4] 60)).alloc (.cells #[.int .u64 a0, .int .u64 a1, .int .u64 a2, .int .u64 a3, .int .u64 a4] 60)).alloc (.cells #[.int .u64 0, .int .u64 0, .int .u64 0, .int .u64 0, .int .u64 0] 60)).alloc (.cells #[.int .u64 0, .int .u64 0, .int .u64 0, .int .u64 0, .int .u64 0] 60)).drewN k) := fun k => below_drN (((((Below.refl _ _).alloc (Nat.le_refl _) _).alloc (by simp) _).alloc (by simp; omega) _).alloc (by simp; omega) _) k
    refine wp_region_pair (by kernel_rfl) (by kernel_rfl) (by kernel_rfl) (by kernel_rfl) (by kernel_rfl) (by kernel_rfl) (by kernel_rfl) (by kernel_rfl) 60 60 _ _ _ _ 43 44 rfl rfl rfl rfl rfl rfl rfl rfl rfl rfl rfl rfl (w.heap.size) (w.heap.size + 1) (w.heap.size + 1 + 1) (w.heap.size + 1 + 1 + 1) #[.int .u64 b0, .int .u64 b1, .int .u64 b2, .int .u64 b3, .int .u64 b4] #[.int .u64 a0, .int .u64 a1, .int .u64 a2, .int .u64 a3, .int .u64 a4] #[.int .u64 0, .int .u64 0, .int .u64 0, .int .u64 0, .int .u64 0] #[.int .u64 0, .int .u64 0, .int .u64 0, .int .u64 0, .int .u64 0] 60 60 60 60 (0, 0) (0, 0) _ _ _ (rp0 _) (rp1 _) (rp2 _) (rp3 _) (by omega) (by omega) Tryd.underlying60 rfl hB.info rfl hB.one Tryd.underlying60 rfl hA.info rfl hA.one rfl rfl rfl rfl rfl rfl rfl rfl rfl rfl rfl rfl ?_
    intro w1 hb
    replace rp2 := keep hb (rp2 _)
    replace rp3 := keep hb (rp3 _)
    replace hw := Below.after (hw _) hb
    clear rp0 rp1 hb
    go_wp2
    exact bodyPost_ret (v := .tuple #[.agg #[.int .u64 b0, .int .u64 b1, .int .u64 b2, .int .u64 b3, .int .u64 b4], .agg #[.int .u64 a0, .int .u64 a1, .int .u64 a2, .int .u64 a3, .int .u64 a4]]) (results_rows2 Tryd.results45 _ _ (w.heap.size + 1 + 1) (w.heap.size + 1 + 1 + 1) _ _ #[.int .u64 b0, .int .u64 b1, .int .u64 b2, .int .u64 b3, .int .u64 b4] #[.int .u64 a0, .int .u64 a1, .int .u64 a2, .int .u64 a3, .int .u64 a4] _ _ _ _ rfl ((setRow_other _ (w.heap.size + 1 + 1 + 1) (w.heap.size + 1 + 1) _ (by omega)).trans (setRow_heap _ _ _ _ _ _ rp2)) rfl (setRow_heap _ _ _ _ _ _ ((setRow_other w1 (w.heap.size + 1 + 1) (w.heap.size + 1 + 1 + 1) _ (by omega)).trans rp3)) Tryd.underlying60 rfl hB.info Tryd.underlying60 rfl hA.info) rfl ⟨rfl, below_setRow (below_setRow hw (by omega) _) (by omega) _⟩

end Go.Proofs.YtkpjpdlamojejaaDoor.Lo


namespace Go.Proofs.YtkpjpdlamojejaaDoor.Lo
set_option maxRecDepth 100000
open Go.RowKit Go.Sort
attribute [local go_sem] setCell_drewN alloc_drewN


set_option maxRecDepth 100000 in
set_option maxHeartbeats 8000000 in
theorem turned_walk {ra rb rc rd' : Array Value} {A B C D : Int} (ha : NumOf ra A) (hb : NumOf rb B) (hc : NumOf rc C) (hd : NumOf rd' D) (on : Bool) :
    ∃ pa pb pc pd, NumOf pa (trn on ⟨A, B, C, D⟩).a ∧ NumOf pb (trn on ⟨A, B, C, D⟩).b ∧ NumOf pc (trn on ⟨A, B, C, D⟩).c ∧ NumOf pd (trn on ⟨A, B, C, D⟩).d ∧ Gives 31 #[.agg (r4 ra rb rc rd'), .bool on] (.agg (r4 pa pb pc pd)) := by
  have c1 := a_swap ha hc on
  have c2 := a_swap hb hd on
  have hpa : NumOf (if on then rc else ra) (trn on ⟨A, B, C, D⟩).a := by cases on <;> assumption
  have hpb : NumOf (if on then rd' else rb) (trn on ⟨A, B, C, D⟩).b := by cases on <;> assumption
  have hpc : NumOf (if on then ra else rc) (trn on ⟨A, B, C, D⟩).c := by cases on <;> assumption
  have hpd : NumOf (if on then rb else rd') (trn on ⟨A, B, C, D⟩).d := by cases on <;> assumption
  generalize (if on then rc else ra) = pa at *
  generalize (if on then rd' else rb) = pb at *
  generalize (if on then ra else rc) = pc at *
  generalize (if on then rb else rd') = pd at *
  generalize trn on ⟨A, B, C, D⟩ = T at *
  refine ⟨pa, pb, pc, pd, hpa, hpb, hpc, hpd, fun w => ?_⟩
  have r0 := hp2_0 w (.cells (r4 ra rb rc rd') 75) (.cells #[.int .u64 0, .int .u64 0, .int .u64 0, .int .u64 0, .int .u64 0, .int .u64 0, .int .u64 0, .int .u64 0, .int .u64 0, .int .u64 0, .int .u64 0, .int .u64 0, .int .u64 0, .int .u64 0, .int .u64 0, .int .u64 0, .int .u64 0, .int .u64 0, .int .u64 0, .int .u64 0] 75)
  have r1 := hp2_1 w (.cells (r4 ra rb rc rd') 75) (.cells #[.int .u64 0, .int .u64 0, .int .u64 0, .int .u64 0, .int .u64 0, .int .u64 0, .int .u64 0, .int .u64 0, .int .u64 0, .int .u64 0, .int .u64 0, .int .u64 0, .int .u64 0, .int .u64 0, .int .u64 0, .int .u64 0, .int .u64 0, .int .u64 0, .int .u64 0, .int .u64 0] 75)
  have hw : Below w.heap.size w ((w.alloc (.cells (r4 ra rb rc rd') 75)).alloc (.cells #[.int .u64 0, .int .u64 0, .int .u64 0, .int .u64 0, .int .u64 0, .int .u64 0, .int .u64 0, .int .u64 0, .int .u64 0, .int .u64 0, .int .u64 0, .int .u64 0, .int .u64 0, .int .u64 0, .int .u64 0, .int .u64 0, .int .u64 0, .int .u64 0, .int .u64 0, .int .u64 0] 75)) := ((Below.refl _ _).alloc (Nat.le_refl _) _).alloc (by simp) _
  go_enter Tryd.func31, Tryd.ntmps31
  iterate 9 go_step
  generalize ((w.alloc (.cells (r4 ra rb rc rd') 75)).alloc (.cells #[.int .u64 0, .int .u64 0, .int .u64 0, .int .u64 0, .int .u64 0, .int .u64 0, .int .u64 0, .int .u64 0, .int .u64 0, .int .u64 0, .int .u64 0, .int .u64 0, .int .u64 0, .int .u64 0, .int .u64 0, .int .u64 0, .int .u64 0, .int .u64 0, .int .u64 0, .int .u64 0] 75)) = w0 at *
  go_wp2_with (first | (refine wpList_load_want rfl 75 _ rfl (w.heap.size) rfl 75 (r4 ra rb rc rd') (0, 0) _ r0 Tryd.underlying75 rfl (nums_info ha.size hb.size hc.size hd.size) ?_) | (refine wpList_load_part rfl 60 _ rfl (w.heap.size) 0 rfl 75 (r4 ra rb rc rd') (0, 0) ra _ r0 p_0 Tryd.underlying60 rfl ha.info ?_) | (refine wpList_load_part rfl 60 _ rfl (w.heap.size) 5 rfl 75 (r4 ra rb rc rd') (0, 0) rb _ r0 (p5_1 ha.size) Tryd.underlying60 rfl hb.info ?_) | (refine wpList_load_part rfl 60 _ rfl (w.heap.size) 10 rfl 75 (r4 ra rb rc rd') (0, 0) rc _ r0 (p5_2 ha.size hb.size) Tryd.underlying60 rfl hc.info ?_) | (refine wpList_load_part rfl 60 _ rfl (w.heap.size) 15 rfl 75 (r4 ra rb rc rd') (0, 0) rd' _ r0 (p5_3 ha.size hb.size hc.size) Tryd.underlying60 rfl hd.info ?_) | fail)
  refine (c1.at _).mono ?_
  rintro e w1 ⟨rfl, hb1⟩
  replace r0 := keep hb1 r0
  replace r1 := keep hb1 r1
  replace hw := Below.after hw hb1
  clear hb1
  have r0' : ((w1.setRow (w.heap.size) (r4 pa rb rc rd')).setRow (w.heap.size) (r4 pa rb pc rd')).heap[w.heap.size]? = some (.cells (r4 pa rb pc rd') 75 (0, 0)) := setRow_heap _ _ _ _ _ _ (setRow_heap _ _ _ _ _ _ r0)
  have r1' : ((w1.setRow (w.heap.size) (r4 pa rb rc rd')).setRow (w.heap.size) (r4 pa rb pc rd')).heap[w.heap.size + 1]? = some (.cells #[.int .u64 0, .int .u64 0, .int .u64 0, .int .u64 0, .int .u64 0, .int .u64 0, .int .u64 0, .int .u64 0, .int .u64 0, .int .u64 0, .int .u64 0, .int .u64 0, .int .u64 0, .int .u64 0, .int .u64 0, .int .u64 0, .int .u64 0, .int .u64 0, .int .u64 0, .int .u64 0] 75 (0, 0)) := (setRow_other _ _ _ _ (by omega)).trans ((setRow_other _ _ _ _ (by omega)).trans r1)
  have hw' : Below w.heap.size w ((w1.setRow (w.heap.size) (r4 pa rb rc rd')).setRow (w.heap.size) (r4 pa rb pc rd')) := below_setRow (below_setRow hw (Nat.le_refl _) _) (Nat.le_refl _) _
  go_wp2_with (first | (refine wpList_store_part rfl 60 _ _ rfl (w.heap.size) 0 pa rfl rfl 75 (r4 ra rb rc rd') (r4 pa rb rc rd') r0 (by rw [nums_size ha.size hb.size hc.size hd.size, hpa.size]; decide) (ovw_0 ha.size hb.size hc.size hd.size hpa.size) hpa.info hpa.one ?_) | (refine wpList_store_part rfl 60 _ _ rfl (w.heap.size) 10 pc rfl rfl 75 (r4 pa rb rc rd') (r4 pa rb pc rd') (setRow_heap w1 (w.heap.size) _ (r4 pa rb rc rd') _ _ r0) (by rw [nums_size hpa.size hb.size hc.size hd.size, hpc.size]; decide) (ovw_2 hpa.size hb.size hc.size hd.size hpc.size) hpc.info hpc.one ?_) | (refine wpList_load_want rfl 75 _ rfl (w.heap.size) rfl 75 (r4 pa rb pc rd') (0, 0) _ r0' Tryd.underlying75 rfl (nums_info hpa.size hb.size hpc.size hd.size) ?_) | (refine wpList_load_part rfl 60 _ rfl (w.heap.size) 0 rfl 75 (r4 pa rb pc rd') (0, 0) pa _ r0' p_0 Tryd.underlying60 rfl hpa.info ?_) | (refine wpList_load_part rfl 60 _ rfl (w.heap.size) 5 rfl 75 (r4 pa rb pc rd') (0, 0) rb _ r0' (p5_1 hpa.size) Tryd.underlying60 rfl hb.info ?_) | (refine wpList_load_part rfl 60 _ rfl (w.heap.size) 10 rfl 75 (r4 pa rb pc rd') (0, 0) pc _ r0' (p5_2 hpa.size hb.size) Tryd.underlying60 rfl hpc.info ?_) | (refine wpList_load_part rfl 60 _ rfl (w.heap.size) 15 rfl 75 (r4 pa rb pc rd') (0, 0) rd' _ r0' (p5_3 hpa.size hb.size hpc.size) Tryd.underlying60 rfl hd.info ?_) | fail)
  generalize ((w1.setRow (w.heap.size) (r4 pa rb rc rd')).setRow (w.heap.size) (r4 pa rb pc rd')) = w2 at *
  clear r0 r1 hw
  refine (c2.at _).mono ?_
  rintro e w3 ⟨rfl, hb1⟩
  have r0 := keep hb1 r0'
  have r1 := keep hb1 r1'
  have hw := Below.after hw' hb1
  clear hb1 r0' r1' hw'
  have r0' : ((w3.setRow (w.heap.size) (r4 pa pb pc rd')).setRow (w.heap.size) (r4 pa pb pc pd)).heap[w.heap.size]? = some (.cells (r4 pa pb pc pd) 75 (0, 0)) := setRow_heap _ _ _ _ _ _ (setRow_heap _ _ _ _ _ _ r0)
  have r1' : ((w3.setRow (w.heap.size) (r4 pa pb pc rd')).setRow (w.heap.size) (r4 pa pb pc pd)).heap[w.heap.size + 1]? = some (.cells #[.int .u64 0, .int .u64 0, .int .u64 0, .int .u64 0, .int .u64 0, .int .u64 0, .int .u64 0, .int .u64 0, .int .u64 0, .int .u64 0, .int .u64 0, .int .u64 0, .int .u64 0, .int .u64 0, .int .u64 0, .int .u64 0, .int .u64 0, .int .u64 0, .int .u64 0, .int .u64 0] 75 (0, 0)) := (setRow_other _ _ _ _ (by omega)).trans ((setRow_other _ _ _ _ (by omega)).trans r1)
  have hw' : Below w.heap.size w ((w3.setRow (w.heap.size) (r4 pa pb pc rd')).setRow (w.heap.size) (r4 pa pb pc pd)) := below_setRow (below_setRow hw (Nat.le_refl _) _) (Nat.le_refl _) _
  go_wp2_with (first | (refine wpList_store_part rfl 60 _ _ rfl (w.heap.size) 5 pb rfl rfl 75 (r4 pa rb pc rd') (r4 pa pb pc rd') r0 (by rw [nums_size hpa.size hb.size hpc.size hd.size, hpb.size]; decide) (ovw_1 hpa.size hb.size hpc.size hd.size hpb.size) hpb.info hpb.one ?_) | (refine wpList_store_part rfl 60 _ _ rfl (w.heap.size) 15 pd rfl rfl 75 (r4 pa pb pc rd') (r4 pa pb pc pd) (setRow_heap w3 (w.heap.size) _ (r4 pa pb pc rd') _ _ r0) (by rw [nums_size hpa.size hpb.size hpc.size hd.size, hpd.size]; decide) (ovw_3 hpa.size hpb.size hpc.size hd.size hpd.size) hpd.info hpd.one ?_) | (refine wpList_load_want rfl 75 _ rfl (w.heap.size) rfl 75 (r4 pa pb pc pd) (0, 0) _ r0' Tryd.underlying75 rfl (nums_info hpa.size hpb.size hpc.size hpd.size) ?_) | (refine wpList_store_row rfl 75 _ _ rfl (w.heap.size + 1) (r4 pa pb pc pd) rfl rfl 75 _ r1' (nums_info hpa.size hpb.size hpc.size hpd.size) (nums_size hpa.size hpb.size hpc.size hpd.size).symm (r4_one hpa.one hpb.one hpc.one hpd.one) ?_) | fail)
  exact bodyPost_ret (v := .agg (r4 pa pb pc pd)) (results_cell_row Tryd.results31 _ _ (w.heap.size + 1) _ (r4 pa pb pc pd) _ _ rfl (setRow_heap _ _ _ _ _ _ r1') Tryd.underlying75 rfl (nums_info hpa.size hpb.size hpc.size hpd.size)) rfl ⟨rfl, below_setRow hw' (by omega) _⟩

end Go.Proofs.YtkpjpdlamojejaaDoor.Lo

