import Derived.Test.YtgfhoabgbgddbaaDoorProg
import Derived.WalkKit
import Derived.WalkSpells
import Derived.WalkLawsBesides
import Derived.Lib.QuietBelow
import Derived.BigQuiet
import Derived.Test.YtgfhoabgbgddbaaDoorKa
import Derived.Test.YtgfhoabgbgddbaaDoorAb
import Derived.Test.YtgfhoabgbgddbaaDoorAe
import Derived.Laws.BitsAllLaws
namespace Go.Proofs.YtgfhoabgbgddbaaDoor
set_option maxRecDepth 100000
open Go.RowKit Go.Sort
attribute [local go_sem] setCell_drewN alloc_drewN


theorem xor_bd (x y : Int) (h1 : 0 ≤ x) (h2 : x < 18446744073709551616) (h3 : 0 ≤ y) (h4 : y < 18446744073709551616) : 0 ≤ bits .xor .u64 x y ∧ bits .xor .u64 x y < 18446744073709551616 := by
  rw [u64_xor x y h1 h2 h3 h4]
  have := Nat.xor_lt_two_pow (n := 64) (x := x.toNat) (y := y.toNat) (by omega) (by omega)
  omega
theorem xor_back (x y : Int) (h1 : 0 ≤ x) (h2 : x < 18446744073709551616) (h3 : 0 ≤ y) (h4 : y < 18446744073709551616) : bits .xor .u64 x (bits .xor .u64 x y) = y := by
  obtain ⟨l, u⟩ := xor_bd x y h1 h2 h3 h4
  rw [u64_xor x _ h1 h2 l u, u64_xor x y h1 h2 h3 h4, Int.toNat_natCast, ← Nat.xor_assoc, Nat.xor_self, Nat.zero_xor]
  omega
theorem xor_back' (x y : Int) (h1 : 0 ≤ x) (h2 : x < 18446744073709551616) (h3 : 0 ≤ y) (h4 : y < 18446744073709551616) : bits .xor .u64 y (bits .xor .u64 x y) = x := by
  obtain ⟨l, u⟩ := xor_bd x y h1 h2 h3 h4
  rw [u64_xor y _ h3 h4 l u, u64_xor x y h1 h2 h3 h4, Int.toNat_natCast, Nat.xor_comm x.toNat, ← Nat.xor_assoc, Nat.xor_self, Nat.zero_xor]
  omega
theorem xor_none (x : Int) (h1 : 0 ≤ x) (h2 : x < 18446744073709551616) : bits .xor .u64 x 0 = x := by
  rw [u64_xor x 0 h1 h2 (by decide) (by decide), Int.toNat_zero, Nat.xor_zero]
  omega
theorem and_none (x : Int) (h1 : 0 ≤ x) (h2 : x < 18446744073709551616) : bits .and .u64 x 0 = 0 := by
  rw [u64_and x 0 h1 h2 (by decide) (by decide), Int.toNat_zero, Nat.and_zero]
  rfl
theorem and_all (x : Int) (h1 : 0 ≤ x) (h2 : x < 18446744073709551616) : bits .and .u64 x 18446744073709551615 = x := by
  rw [u64_and x 18446744073709551615 h1 h2 (by decide) (by decide)]
  have e : (18446744073709551615 : Int).toNat = 2 ^ 64 - 1 := by decide
  rw [e, Nat.and_two_pow_sub_one_eq_mod]
  omega


set_option maxHeartbeats 4000000 in
theorem a_swap {r s : Array Value} {x y : Int} (h : NumOf r x) (g : NumOf s y) (on : Bool) : Gives 102 #[.agg r, .agg s, .bool on] (.tuple #[.agg (if on then s else r), .agg (if on then r else s)]) := by
  have hA := h; have hB := g
  obtain ⟨a0, a1, a2, a3, a4, rfl, ⟨h0, h1, h2, h3, h4⟩, ha⟩ := h
  obtain ⟨b0, b1, b2, b3, b4, rfl, ⟨g0, g1, g2, g3, g4⟩, hb⟩ := g
  intro w
  cases on
  · have e0 : bits .and .u64 (bits .xor .u64 a0 b0) 0 = 0 := and_none _ (xor_bd a0 b0 h0.1 (by omega) g0.1 (by omega)).1 (xor_bd a0 b0 h0.1 (by omega) g0.1 (by omega)).2
    have i0 := xor_none a0 h0.1 (by omega)
    have j0 := xor_none b0 g0.1 (by omega)
    have e1 : bits .and .u64 (bits .xor .u64 a1 b1) 0 = 0 := and_none _ (xor_bd a1 b1 h1.1 (by omega) g1.1 (by omega)).1 (xor_bd a1 b1 h1.1 (by omega) g1.1 (by omega)).2
    have i1 := xor_none a1 h1.1 (by omega)
    have j1 := xor_none b1 g1.1 (by omega)
    have e2 : bits .and .u64 (bits .xor .u64 a2 b2) 0 = 0 := and_none _ (xor_bd a2 b2 h2.1 (by omega) g2.1 (by omega)).1 (xor_bd a2 b2 h2.1 (by omega) g2.1 (by omega)).2
    have i2 := xor_none a2 h2.1 (by omega)
    have j2 := xor_none b2 g2.1 (by omega)
    have e3 : bits .and .u64 (bits .xor .u64 a3 b3) 0 = 0 := and_none _ (xor_bd a3 b3 h3.1 (by omega) g3.1 (by omega)).1 (xor_bd a3 b3 h3.1 (by omega) g3.1 (by omega)).2
    have i3 := xor_none a3 h3.1 (by omega)
    have j3 := xor_none b3 g3.1 (by omega)
    have e4 : bits .and .u64 (bits .xor .u64 a4 b4) 0 = 0 := and_none _ (xor_bd a4 b4 h4.1 (by omega) g4.1 (by omega)).1 (xor_bd a4 b4 h4.1 (by omega) g4.1 (by omega)).2
    have i4 := xor_none a4 h4.1 (by omega)
    have j4 := xor_none b4 g4.1 (by omega)
    clear h0 g0 h1 g1 h2 g2 h3 g3 h4 g4 ha hb
    go_enter Tryd.func102, Tryd.ntmps102
    go_wp2
    refine wp_loop_rounds 6 ?_
    rw [rounds_succ]
    go_wp2
    go_quiet (fail)
    go_wp2
    rw [rounds_succ]
    go_wp2
    go_quiet (fail)
    go_wp2
    rw [rounds_succ]
    go_wp2
    go_quiet (fail)
    go_wp2
    rw [rounds_succ]
    go_wp2
    go_quiet (fail)
    go_wp2
    rw [rounds_succ]
    go_wp2
    go_quiet (fail)
    go_wp2
    rw [rounds_succ]
    go_wp2
    have rp0 : ∀ k, (((((w.alloc (.cells #[.int .u64 a0, .int .u64 a1, .int .u64 a2, .int .u64 a3, .int .u64 a4] 27)).alloc (.cells #[.int .u64 b0, .int .u64 b1, .int .u64 b2, .int .u64 b3, .int .u64 b4] 27)).alloc (.cells #[.int .u64 0, .int .u64 0, .int .u64 0, .int .u64 0, .int .u64 0] 27)).alloc (.cells #[.int .u64 0, .int .u64 0, .int .u64 0, .int .u64 0, .int .u64 0] 27)).drewN k).heap[w.heap.size]? = some (.cells #[.int .u64 a0, .int .u64 a1, .int .u64 a2, .int .u64 a3, .int .u64 a4] 27 (0, 0)) := fun k => by rw [World.heap_drewN]; exact hp4_0 w _ _ _ _
    have rp1 : ∀ k, (((((w.alloc (.cells #[.int .u64 a0, .int .u64 a1, .int .u64 a2, .int .u64 a3, .int .u64 a4] 27)).alloc (.cells #[.int .u64 b0, .int .u64 b1, .int .u64 b2, .int .u64 b3, .int .u64 b4] 27)).alloc (.cells #[.int .u64 0, .int .u64 0, .int .u64 0, .int .u64 0, .int .u64 0] 27)).alloc (.cells #[.int .u64 0, .int .u64 0, .int .u64 0, .int .u64 0, .int .u64 0] 27)).drewN k).heap[w.heap.size + 1]? = some (.cells #[.int .u64 b0, .int .u64 b1, .int .u64 b2, .int .u64 b3, .int .u64 b4] 27 (0, 0)) := fun k => by rw [World.heap_drewN]; exact hp4_1 w _ _ _ _
    have rp2 : ∀ k, (((((w.alloc (.cells #[.int .u64 a0, .int .u64 a1, .int .u64 a2, .int .u64 a3, .int .u64 a4] 27)).alloc (.cells #[.int .u64 b0, .int .u64 b1, .int .u64 b2, .int .u64 b3, .int .u64 b4] 27)).alloc (.cells #[.int .u64 0, .int .u64 0, .int .u64 0, .int .u64 0, .int .u64 0] 27)).alloc (.cells #[.int .u64 0, .int .u64 0, .int .u64 0, .int .u64 0, .int .u64 0] 27)).drewN k).heap[w.heap.size + 1 + 1]? = some (.cells #[.int .u64 0, .int .u64 0, .int .u64 0, .int .u64 0, .int .u64 0] 27 (0, 0)) := fun k => by rw [World.heap_drewN]; exact hp4_2 w _ _ _ _
    have rp3 : ∀ k, (((((w.alloc (.cells #[.int .u64 a0, .int .u64 a1, .int .u64 a2, .int .u64 a3, .int .u64 a4] 27)).alloc (.cells #[.int .u64 b0, .int .u64 b1, .int .u64 b2, .int .u64 b3, .int .u64 b4] 27)).alloc (.cells #[.int .u64 0, .int .u64 0, .int .u64 0, .int .u64 0, .int .u64 0] 27)).alloc (.cells #[.int .u64 0, .int .u64 0, .int .u64 0, .int .u64 0, .int .u64 0] 27)).drewN k).heap[w.heap.size + 1 + 1 + 1]? = some (.cells #[.int .u64 0, .int .u64 0, .int .u64 0, .int .u64 0, .int .u64 0] 27 (0, 0)) := fun k => by rw [World.heap_drewN]; exact hp4_3 w _ _ _ _
    have hw : ∀ k, Below w.heap.size w (((((w.alloc (.cells #[.int .u64 a0, .int .u64 a1, .int .u64 a2, .int .u64 a3, .int .u64 a4] 27)).alloc (.cells #[.int .u64 b0, .int .u64 b1, .int .u64 b2, .int .u64 b3, .int .u64 b4] 27)).alloc (.cells #[.int .u64 0, .int .u64 0, .int .u64 0, .int .u64 0, .int .u64 0] 27)).alloc (.cells #[.int .u64 0, .int .u64 0, .int .u64 0, .int .u64 0, .int .u64 0] 27)).drewN k) := fun k => below_drN (((((Below.refl _ _).alloc (Nat.le_refl _) _).alloc (by simp) _).alloc (by simp; omega) _).alloc (by simp; omega) _) k
    refine wp_region_pair (by kernel_rfl) (by kernel_rfl) (by kernel_rfl) (by kernel_rfl) (by kernel_rfl) (by kernel_rfl) (by kernel_rfl) (by kernel_rfl) 27 27 _ _ _ _ 43 44 rfl rfl rfl rfl rfl rfl rfl rfl rfl rfl rfl rfl (w.heap.size) (w.heap.size + 1) (w.heap.size + 1 + 1) (w.heap.size + 1 + 1 + 1) #[.int .u64 a0, .int .u64 a1, .int .u64 a2, .int .u64 a3, .int .u64 a4] #[.int .u64 b0, .int .u64 b1, .int .u64 b2, .int .u64 b3, .int .u64 b4] #[.int .u64 0, .int .u64 0, .int .u64 0, .int .u64 0, .int .u64 0] #[.int .u64 0, .int .u64 0, .int .u64 0, .int .u64 0, .int .u64 0] 27 27 27 27 (0, 0) (0, 0) _ _ _ (rp0 _) (rp1 _) (rp2 _) (rp3 _) (by omega) (by omega) Tryd.underlying27 rfl hA.info rfl hA.one Tryd.underlying27 rfl hB.info rfl hB.one rfl rfl rfl rfl rfl rfl rfl rfl rfl rfl rfl rfl ?_
    intro w1 hb
    replace rp2 := keep hb (rp2 _)
    replace rp3 := keep hb (rp3 _)
    replace hw := Below.after (hw _) hb
    clear rp0 rp1 hb
    go_wp2
    exact bodyPost_ret (v := .tuple #[.agg #[.int .u64 a0, .int .u64 a1, .int .u64 a2, .int .u64 a3, .int .u64 a4], .agg #[.int .u64 b0, .int .u64 b1, .int .u64 b2, .int .u64 b3, .int .u64 b4]]) (results_rows2 Tryd.results102 _ _ (w.heap.size + 1 + 1) (w.heap.size + 1 + 1 + 1) _ _ #[.int .u64 a0, .int .u64 a1, .int .u64 a2, .int .u64 a3, .int .u64 a4] #[.int .u64 b0, .int .u64 b1, .int .u64 b2, .int .u64 b3, .int .u64 b4] _ _ _ _ rfl ((setRow_other _ (w.heap.size + 1 + 1 + 1) (w.heap.size + 1 + 1) _ (by omega)).trans (setRow_heap _ _ _ _ _ _ rp2)) rfl (setRow_heap _ _ _ _ _ _ ((setRow_other w1 (w.heap.size + 1 + 1) (w.heap.size + 1 + 1 + 1) _ (by omega)).trans rp3)) Tryd.underlying27 rfl hA.info Tryd.underlying27 rfl hB.info) rfl ⟨rfl, below_setRow (below_setRow hw (by omega) _) (by omega) _⟩
  · have e0 : bits .and .u64 (bits .xor .u64 a0 b0) 18446744073709551615 = bits .xor .u64 a0 b0 := and_all _ (xor_bd a0 b0 h0.1 (by omega) g0.1 (by omega)).1 (xor_bd a0 b0 h0.1 (by omega) g0.1 (by omega)).2
    have i0 := xor_back a0 b0 h0.1 (by omega) g0.1 (by omega)
    have j0 := xor_back' a0 b0 h0.1 (by omega) g0.1 (by omega)
    have e1 : bits .and .u64 (bits .xor .u64 a1 b1) 18446744073709551615 = bits .xor .u64 a1 b1 := and_all _ (xor_bd a1 b1 h1.1 (by omega) g1.1 (by omega)).1 (xor_bd a1 b1 h1.1 (by omega) g1.1 (by omega)).2
    have i1 := xor_back a1 b1 h1.1 (by omega) g1.1 (by omega)
    have j1 := xor_back' a1 b1 h1.1 (by omega) g1.1 (by omega)
    have e2 : bits .and .u64 (bits .xor .u64 a2 b2) 18446744073709551615 = bits .xor .u64 a2 b2 := and_all _ (xor_bd a2 b2 h2.1 (by omega) g2.1 (by omega)).1 (xor_bd a2 b2 h2.1 (by omega) g2.1 (by omega)).2
    have i2 := xor_back a2 b2 h2.1 (by omega) g2.1 (by omega)
    have j2 := xor_back' a2 b2 h2.1 (by omega) g2.1 (by omega)
    have e3 : bits .and .u64 (bits .xor .u64 a3 b3) 18446744073709551615 = bits .xor .u64 a3 b3 := and_all _ (xor_bd a3 b3 h3.1 (by omega) g3.1 (by omega)).1 (xor_bd a3 b3 h3.1 (by omega) g3.1 (by omega)).2
    have i3 := xor_back a3 b3 h3.1 (by omega) g3.1 (by omega)
    have j3 := xor_back' a3 b3 h3.1 (by omega) g3.1 (by omega)
    have e4 : bits .and .u64 (bits .xor .u64 a4 b4) 18446744073709551615 = bits .xor .u64 a4 b4 := and_all _ (xor_bd a4 b4 h4.1 (by omega) g4.1 (by omega)).1 (xor_bd a4 b4 h4.1 (by omega) g4.1 (by omega)).2
    have i4 := xor_back a4 b4 h4.1 (by omega) g4.1 (by omega)
    have j4 := xor_back' a4 b4 h4.1 (by omega) g4.1 (by omega)
    clear h0 g0 h1 g1 h2 g2 h3 g3 h4 g4 ha hb
    go_enter Tryd.func102, Tryd.ntmps102
    go_wp2
    refine wp_loop_rounds 6 ?_
    rw [rounds_succ]
    go_wp2
    go_quiet (fail)
    go_wp2
    rw [rounds_succ]
    go_wp2
    go_quiet (fail)
    go_wp2
    rw [rounds_succ]
    go_wp2
    go_quiet (fail)
    go_wp2
    rw [rounds_succ]
    go_wp2
    go_quiet (fail)
    go_wp2
    rw [rounds_succ]
    go_wp2
    go_quiet (fail)
    go_wp2
    rw [rounds_succ]
    go_wp2
    have rp0 : ∀ k, (((((w.alloc (.cells #[.int .u64 b0, .int .u64 b1, .int .u64 b2, .int .u64 b3, .int .u64 b4] 27)).alloc (.cells #[.int .u64 a0, .int .u64 a1, .int .u64 a2, .int .u64 a3, .int .u64 a4] 27)).alloc (.cells #[.int .u64 0, .int .u64 0, .int .u64 0, .int .u64 0, .int .u64 0] 27)).alloc (.cells #[.int .u64 0, .int .u64 0, .int .u64 0, .int .u64 0, .int .u64 0] 27)).drewN k).heap[w.heap.size]? = some (.cells #[.int .u64 b0, .int .u64 b1, .int .u64 b2, .int .u64 b3, .int .u64 b4] 27 (0, 0)) := fun k => by rw [World.heap_drewN]; exact hp4_0 w _ _ _ _
    have rp1 : ∀ k, (((((w.alloc (.cells #[.int .u64 b0, .int .u64 b1, .int .u64 b2, .int .u64 b3, .int .u64 b4] 27)).alloc (.cells #[.int .u64 a0, .int .u64 a1, .int .u64 a2, .int .u64 a3, .int .u64 a4] 27)).alloc (.cells #[.int .u64 0, .int .u64 0, .int .u64 0, .int .u64 0, .int .u64 0] 27)).alloc (.cells #[.int .u64 0, .int .u64 0, .int .u64 0, .int .u64 0, .int .u64 0] 27)).drewN k).heap[w.heap.size + 1]? = some (.cells #[.int .u64 a0, .int .u64 a1, .int .u64 a2, .int .u64 a3, .int .u64 a4] 27 (0, 0)) := fun k => by rw [World.heap_drewN]; exact hp4_1 w _ _ _ _
    have rp2 : ∀ k, (((((w.alloc (.cells #[.int .u64 b0, .int .u64 b1, .int .u64 b2, .int .u64 b3, .int .u64 b4] 27)).alloc (.cells #[.int .u64 a0, .int .u64 a1, .int .u64 a2, .int .u64 a3, .int .u64 a4] 27)).alloc (.cells #[.int .u64 0, .int .u64 0, .int .u64 0, .int .u64 0, .int .u64 0] 27)).alloc (.cells #[.int .u64 0, .int .u64 0, .int .u64 0, .int .u64 0, .int .u64 0] 27)).drewN k).heap[w.heap.size + 1 + 1]? = some (.cells #[.int .u64 0, .int .u64 0, .int .u64 0, .int .u64 0, .int .u64 0] 27 (0, 0)) := fun k => by rw [World.heap_drewN]; exact hp4_2 w _ _ _ _
    have rp3 : ∀ k, (((((w.alloc (.cells #[.int .u64 b0, .int .u64 b1, .int .u64 b2, .int .u64 b3, .int .u64 b4] 27)).alloc (.cells #[.int .u64 a0, .int .u64 a1, .int .u64 a2, .int .u64 a3, .int .u64 a4] 27)).alloc (.cells #[.int .u64 0, .int .u64 0, .int .u64 0, .int .u64 0, .int .u64 0] 27)).alloc (.cells #[.int .u64 0, .int .u64 0, .int .u64 0, .int .u64 0, .int .u64 0] 27)).drewN k).heap[w.heap.size + 1 + 1 + 1]? = some (.cells #[.int .u64 0, .int .u64 0, .int .u64 0, .int .u64 0, .int .u64 0] 27 (0, 0)) := fun k => by rw [World.heap_drewN]; exact hp4_3 w _ _ _ _
    have hw : ∀ k, Below w.heap.size w (((((w.alloc (.cells #[.int .u64 b0, .int .u64 b1, .int .u64 b2, .int .u64 b3, .int .u64 b4] 27)).alloc (.cells #[.int .u64 a0, .int .u64 a1, .int .u64 a2, .int .u64 a3, .int .u64 a4] 27)).alloc (.cells #[.int .u64 0, .int .u64 0, .int .u64 0, .int .u64 0, .int .u64 0] 27)).alloc (.cells #[.int .u64 0, .int .u64 0, .int .u64 0, .int .u64 0, .int .u64 0] 27)).drewN k) := fun k => below_drN (((((Below.refl _ _).alloc (Nat.le_refl _) _).alloc (by simp) _).alloc (by simp; omega) _).alloc (by simp; omega) _) k
    refine wp_region_pair (by kernel_rfl) (by kernel_rfl) (by kernel_rfl) (by kernel_rfl) (by kernel_rfl) (by kernel_rfl) (by kernel_rfl) (by kernel_rfl) 27 27 _ _ _ _ 43 44 rfl rfl rfl rfl rfl rfl rfl rfl rfl rfl rfl rfl (w.heap.size) (w.heap.size + 1) (w.heap.size + 1 + 1) (w.heap.size + 1 + 1 + 1) #[.int .u64 b0, .int .u64 b1, .int .u64 b2, .int .u64 b3, .int .u64 b4] #[.int .u64 a0, .int .u64 a1, .int .u64 a2, .int .u64 a3, .int .u64 a4] #[.int .u64 0, .int .u64 0, .int .u64 0, .int .u64 0, .int .u64 0] #[.int .u64 0, .int .u64 0, .int .u64 0, .int .u64 0, .int .u64 0] 27 27 27 27 (0, 0) (0, 0) _ _ _ (rp0 _) (rp1 _) (rp2 _) (rp3 _) (by omega) (by omega) Tryd.underlying27 rfl hB.info rfl hB.one Tryd.underlying27 rfl hA.info rfl hA.one rfl rfl rfl rfl rfl rfl rfl rfl rfl rfl rfl rfl ?_
    intro w1 hb
    replace rp2 := keep hb (rp2 _)
    replace rp3 := keep hb (rp3 _)
    replace hw := Below.after (hw _) hb
    clear rp0 rp1 hb
    go_wp2
    exact bodyPost_ret (v := .tuple #[.agg #[.int .u64 b0, .int .u64 b1, .int .u64 b2, .int .u64 b3, .int .u64 b4], .agg #[.int .u64 a0, .int .u64 a1, .int .u64 a2, .int .u64 a3, .int .u64 a4]]) (results_rows2 Tryd.results102 _ _ (w.heap.size + 1 + 1) (w.heap.size + 1 + 1 + 1) _ _ #[.int .u64 b0, .int .u64 b1, .int .u64 b2, .int .u64 b3, .int .u64 b4] #[.int .u64 a0, .int .u64 a1, .int .u64 a2, .int .u64 a3, .int .u64 a4] _ _ _ _ rfl ((setRow_other _ (w.heap.size + 1 + 1 + 1) (w.heap.size + 1 + 1) _ (by omega)).trans (setRow_heap _ _ _ _ _ _ rp2)) rfl (setRow_heap _ _ _ _ _ _ ((setRow_other w1 (w.heap.size + 1 + 1) (w.heap.size + 1 + 1 + 1) _ (by omega)).trans rp3)) Tryd.underlying27 rfl hB.info Tryd.underlying27 rfl hA.info) rfl ⟨rfl, below_setRow (below_setRow hw (by omega) _) (by omega) _⟩

end Go.Proofs.YtgfhoabgbgddbaaDoor

