import Derived.Test.YtnohfbpmckhbbaaDoorProg
import Derived.WalkKit
import Derived.WalkSpells
import Derived.WalkLawsBesides
import Derived.Lib.QuietBelow
import Derived.BigQuiet
import Derived.Test.YtnohfbpmckhbbaaDoorS0
import Derived.Test.YtnohfbpmckhbbaaDoorS1
import Derived.Test.YtnohfbpmckhbbaaDoorS2
namespace Go.Proofs.YtnohfbpmckhbbaaDoor
set_option maxRecDepth 100000
open Go.RowKit Go.Sort
attribute [local go_sem] setCell_drewN alloc_drewN


theorem mstep (x y b : Int) (l : 0 ≤ x) (u : x < 65536) (ly : 0 ≤ y) (uy : y < 65536) (lb : 0 ≤ b) (ub : b ≤ 1) : ∃ e b' : Int, 1 - (x + 65536 - y - b) / 65536 = b' ∧ (x + 65536 - y - b) % 65536 = e ∧ Hid (e - 65536 * b' = x - y - b) ∧ 0 ≤ b' ∧ b' ≤ 1 ∧ 0 ≤ e ∧ e < 65536 :=
  ⟨_, _, rfl, rfl, by unfold Hid; omega, by omega, by omega, by omega, by omega⟩

theorem mstep0 (x y : Int) (l : 0 ≤ x) (u : x < 65536) (ly : 0 ≤ y) (uy : y < 65536) : ∃ e b' : Int, 1 - (x + 65536 - y) / 65536 = b' ∧ (x + 65536 - y) % 65536 = e ∧ Hid (e - 65536 * b' = x - y) ∧ 0 ≤ b' ∧ b' ≤ 1 ∧ 0 ≤ e ∧ e < 65536 :=
  ⟨_, _, rfl, rfl, by unfold Hid; omega, by omega, by omega, by omega, by omega⟩

set_option maxHeartbeats 4000000 in
theorem minus_any (x0 x1 x2 x3 x4 x5 x6 x7 x8 x9 x10 x11 x12 x13 x14 x15 y0 y1 y2 y3 y4 y5 y6 y7 y8 y9 y10 y11 y12 y13 y14 y15 : Int) (l0 : 0 ≤ x0) (u0 : x0 < 65536) (l1 : 0 ≤ x1) (u1 : x1 < 65536) (l2 : 0 ≤ x2) (u2 : x2 < 65536) (l3 : 0 ≤ x3) (u3 : x3 < 65536) (l4 : 0 ≤ x4) (u4 : x4 < 65536) (l5 : 0 ≤ x5) (u5 : x5 < 65536) (l6 : 0 ≤ x6) (u6 : x6 < 65536) (l7 : 0 ≤ x7) (u7 : x7 < 65536) (l8 : 0 ≤ x8) (u8 : x8 < 65536) (l9 : 0 ≤ x9) (u9 : x9 < 65536) (l10 : 0 ≤ x10) (u10 : x10 < 65536) (l11 : 0 ≤ x11) (u11 : x11 < 65536) (l12 : 0 ≤ x12) (u12 : x12 < 65536) (l13 : 0 ≤ x13) (u13 : x13 < 65536) (l14 : 0 ≤ x14) (u14 : x14 < 65536) (l15 : 0 ≤ x15) (u15 : x15 < 65536) (ly0 : 0 ≤ y0) (uy0 : y0 < 65536) (ly1 : 0 ≤ y1) (uy1 : y1 < 65536) (ly2 : 0 ≤ y2) (uy2 : y2 < 65536) (ly3 : 0 ≤ y3) (uy3 : y3 < 65536) (ly4 : 0 ≤ y4) (uy4 : y4 < 65536) (ly5 : 0 ≤ y5) (uy5 : y5 < 65536) (ly6 : 0 ≤ y6) (uy6 : y6 < 65536) (ly7 : 0 ≤ y7) (uy7 : y7 < 65536) (ly8 : 0 ≤ y8) (uy8 : y8 < 65536) (ly9 : 0 ≤ y9) (uy9 : y9 < 65536) (ly10 : 0 ≤ y10) (uy10 : y10 < 65536) (ly11 : 0 ≤ y11) (uy11 : y11 < 65536) (ly12 : 0 ≤ y12) (uy12 : y12 < 65536) (ly13 : 0 ≤ y13) (uy13 : y13 < 65536) (ly14 : 0 ≤ y14) (uy14 : y14 < 65536) (ly15 : 0 ≤ y15) (uy15 : y15 < 65536) (w : World) :
    Calls Tryd.prog 52 #[.agg #[.int .u64 x0, .int .u64 x1, .int .u64 x2, .int .u64 x3, .int .u64 x4, .int .u64 x5, .int .u64 x6, .int .u64 x7, .int .u64 x8, .int .u64 x9, .int .u64 x10, .int .u64 x11, .int .u64 x12, .int .u64 x13, .int .u64 x14, .int .u64 x15], .agg #[.int .u64 y0, .int .u64 y1, .int .u64 y2, .int .u64 y3, .int .u64 y4, .int .u64 y5, .int .u64 y6, .int .u64 y7, .int .u64 y8, .int .u64 y9, .int .u64 y10, .int .u64 y11, .int .u64 y12, .int .u64 y13, .int .u64 y14, .int .u64 y15]] w fun e w' => ∃ e0 e1 e2 e3 e4 e5 e6 e7 e8 e9 e10 e11 e12 e13 e14 e15 c : Int, e = .returned (.agg #[.int .u64 e0, .int .u64 e1, .int .u64 e2, .int .u64 e3, .int .u64 e4, .int .u64 e5, .int .u64 e6, .int .u64 e7, .int .u64 e8, .int .u64 e9, .int .u64 e10, .int .u64 e11, .int .u64 e12, .int .u64 e13, .int .u64 e14, .int .u64 e15]) ∧ Below w.heap.size w w' ∧ ((0 ≤ e0 ∧ e0 < 65536) ∧ (0 ≤ e1 ∧ e1 < 65536) ∧ (0 ≤ e2 ∧ e2 < 65536) ∧ (0 ≤ e3 ∧ e3 < 65536) ∧ (0 ≤ e4 ∧ e4 < 65536) ∧ (0 ≤ e5 ∧ e5 < 65536) ∧ (0 ≤ e6 ∧ e6 < 65536) ∧ (0 ≤ e7 ∧ e7 < 65536) ∧ (0 ≤ e8 ∧ e8 < 65536) ∧ (0 ≤ e9 ∧ e9 < 65536) ∧ (0 ≤ e10 ∧ e10 < 65536) ∧ (0 ≤ e11 ∧ e11 < 65536) ∧ (0 ≤ e12 ∧ e12 < 65536) ∧ (0 ≤ e13 ∧ e13 < 65536) ∧ (0 ≤ e14 ∧ e14 < 65536) ∧ (0 ≤ e15 ∧ e15 < 65536) ∧ 0 ≤ c ∧ c ≤ 1) ∧ v16 e0 e1 e2 e3 e4 e5 e6 e7 e8 e9 e10 e11 e12 e13 e14 e15 - 115792089237316195423570985008687907853269984665640564039457584007913129639936 * c = v16 x0 x1 x2 x3 x4 x5 x6 x7 x8 x9 x10 x11 x12 x13 x14 x15 - v16 y0 y1 y2 y3 y4 y5 y6 y7 y8 y9 y10 y11 y12 y13 y14 y15 := by
  go_enter Tryd.func52, Tryd.ntmps52
  go_wp2
  refine wp_loop_rounds 17 ?_
  rw [rounds_succ]
  go_wp2
  go_quiet (fail)
  go_wp2
  obtain ⟨e0, b0, hq, hr, H0, lb0, ub0, le0, ue0⟩ := mstep0 x0 y0 l0 u0 ly0 uy0
  rw [hq, hr]; clear hq hr
  rw [rounds_succ]
  go_wp2
  go_quiet (fail)
  go_wp2
  obtain ⟨e1, b1, hq, hr, H1, lb1, ub1, le1, ue1⟩ := mstep x1 y1 b0 l1 u1 ly1 uy1 lb0 ub0
  rw [hq, hr]; clear hq hr
  rw [rounds_succ]
  go_wp2
  go_quiet (fail)
  go_wp2
  obtain ⟨e2, b2, hq, hr, H2, lb2, ub2, le2, ue2⟩ := mstep x2 y2 b1 l2 u2 ly2 uy2 lb1 ub1
  rw [hq, hr]; clear hq hr
  rw [rounds_succ]
  go_wp2
  go_quiet (fail)
  go_wp2
  obtain ⟨e3, b3, hq, hr, H3, lb3, ub3, le3, ue3⟩ := mstep x3 y3 b2 l3 u3 ly3 uy3 lb2 ub2
  rw [hq, hr]; clear hq hr
  rw [rounds_succ]
  go_wp2
  go_quiet (fail)
  go_wp2
  obtain ⟨e4, b4, hq, hr, H4, lb4, ub4, le4, ue4⟩ := mstep x4 y4 b3 l4 u4 ly4 uy4 lb3 ub3
  rw [hq, hr]; clear hq hr
  rw [rounds_succ]
  go_wp2
  go_quiet (fail)
  go_wp2
  obtain ⟨e5, b5, hq, hr, H5, lb5, ub5, le5, ue5⟩ := mstep x5 y5 b4 l5 u5 ly5 uy5 lb4 ub4
  rw [hq, hr]; clear hq hr
  rw [rounds_succ]
  go_wp2
  go_quiet (fail)
  go_wp2
  obtain ⟨e6, b6, hq, hr, H6, lb6, ub6, le6, ue6⟩ := mstep x6 y6 b5 l6 u6 ly6 uy6 lb5 ub5
  rw [hq, hr]; clear hq hr
  rw [rounds_succ]
  go_wp2
  go_quiet (fail)
  go_wp2
  obtain ⟨e7, b7, hq, hr, H7, lb7, ub7, le7, ue7⟩ := mstep x7 y7 b6 l7 u7 ly7 uy7 lb6 ub6
  rw [hq, hr]; clear hq hr
  rw [rounds_succ]
  go_wp2
  go_quiet (fail)
  go_wp2
  obtain ⟨e8, b8, hq, hr, H8, lb8, ub8, le8, ue8⟩ := mstep x8 y8 b7 l8 u8 ly8 uy8 lb7 ub7
  rw [hq, hr]; clear hq hr
  rw [rounds_succ]
  go_wp2
  go_quiet (fail)
  go_wp2
  obtain ⟨e9, b9, hq, hr, H9, lb9, ub9, le9, ue9⟩ := mstep x9 y9 b8 l9 u9 ly9 uy9 lb8 ub8
  rw [hq, hr]; clear hq hr
  rw [rounds_succ]
  go_wp2
  go_quiet (fail)
  go_wp2
  obtain ⟨e10, b10, hq, hr, H10, lb10, ub10, le10, ue10⟩ := mstep x10 y10 b9 l10 u10 ly10 uy10 lb9 ub9
  rw [hq, hr]; clear hq hr
  rw [rounds_succ]
  go_wp2
  go_quiet (fail)
  go_wp2
  obtain ⟨e11, b11, hq, hr, H11, lb11, ub11, le11, ue11⟩ := mstep x11 y11 b10 l11 u11 ly11 uy11 lb10 ub10
  rw [hq, hr]; clear hq hr
  rw [rounds_succ]
  go_wp2
  go_quiet (fail)
  go_wp2
  obtain ⟨e12, b12, hq, hr, H12, lb12, ub12, le12, ue12⟩ := mstep x12 y12 b11 l12 u12 ly12 uy12 lb11 ub11
  rw [hq, hr]; clear hq hr
  rw [rounds_succ]
  go_wp2
  go_quiet (fail)
  go_wp2
  obtain ⟨e13, b13, hq, hr, H13, lb13, ub13, le13, ue13⟩ := mstep x13 y13 b12 l13 u13 ly13 uy13 lb12 ub12
  rw [hq, hr]; clear hq hr
  rw [rounds_succ]
  go_wp2
  go_quiet (fail)
  go_wp2
  obtain ⟨e14, b14, hq, hr, H14, lb14, ub14, le14, ue14⟩ := mstep x14 y14 b13 l14 u14 ly14 uy14 lb13 ub13
  rw [hq, hr]; clear hq hr
  rw [rounds_succ]
  go_wp2
  go_quiet (fail)
  go_wp2
  obtain ⟨e15, b15, hq, hr, H15, lb15, ub15, le15, ue15⟩ := mstep x15 y15 b14 l15 u15 ly15 uy15 lb14 ub14
  rw [hq, hr]; clear hq hr
  rw [rounds_succ]
  go_wp2_with (first | (refine wpList_load_row rfl 28 _ rfl (w.heap.size + 1 + 1 + 1) rfl 28 #[.int .u64 e0, .int .u64 e1, .int .u64 e2, .int .u64 e3, .int .u64 e4, .int .u64 e5, .int .u64 e6, .int .u64 e7, .int .u64 e8, .int .u64 e9, .int .u64 e10, .int .u64 e11, .int .u64 e12, .int .u64 e13, .int .u64 e14, .int .u64 e15] (0, 0) _ (by rw [World.heap_drewN, hp4_3]) Tryd.underlying28 rfl (by kernel_rfl) ?_) | (refine wpList_store_row rfl 28 _ _ rfl (w.heap.size + 1 + 1) #[.int .u64 e0, .int .u64 e1, .int .u64 e2, .int .u64 e3, .int .u64 e4, .int .u64 e5, .int .u64 e6, .int .u64 e7, .int .u64 e8, .int .u64 e9, .int .u64 e10, .int .u64 e11, .int .u64 e12, .int .u64 e13, .int .u64 e14, .int .u64 e15] rfl rfl 28 #[.int .u64 0, .int .u64 0, .int .u64 0, .int .u64 0, .int .u64 0, .int .u64 0, .int .u64 0, .int .u64 0, .int .u64 0, .int .u64 0, .int .u64 0, .int .u64 0, .int .u64 0, .int .u64 0, .int .u64 0, .int .u64 0] (by rw [World.heap_drewN, hp4_2]) (by kernel_rfl) rfl (by kernel_rfl) ?_; rw [setRow_drewN, setRow_alloc_old _ _ _ _ (by simp), setRow_alloc_new _ _ _ _ _ _ (by simp)]))
  refine bodyPost_ret (v := .agg #[.int .u64 e0, .int .u64 e1, .int .u64 e2, .int .u64 e3, .int .u64 e4, .int .u64 e5, .int .u64 e6, .int .u64 e7, .int .u64 e8, .int .u64 e9, .int .u64 e10, .int .u64 e11, .int .u64 e12, .int .u64 e13, .int .u64 e14, .int .u64 e15]) (results_cell_row Tryd.results52 _ _ (w.heap.size + 1 + 1) _ #[.int .u64 e0, .int .u64 e1, .int .u64 e2, .int .u64 e3, .int .u64 e4, .int .u64 e5, .int .u64 e6, .int .u64 e7, .int .u64 e8, .int .u64 e9, .int .u64 e10, .int .u64 e11, .int .u64 e12, .int .u64 e13, .int .u64 e14, .int .u64 e15] _ _ rfl (by rw [World.heap_drewN, hp4_2]) Tryd.underlying28 rfl (by kernel_rfl)) rfl ⟨e0, e1, e2, e3, e4, e5, e6, e7, e8, e9, e10, e11, e12, e13, e14, e15, b15, rfl, below_drN (((((Below.refl _ _).alloc (Nat.le_refl _) _).alloc (by simp) _).alloc (by simp; omega) _).alloc (by simp; omega) _) _, ⟨⟨le0, ue0⟩, ⟨le1, ue1⟩, ⟨le2, ue2⟩, ⟨le3, ue3⟩, ⟨le4, ue4⟩, ⟨le5, ue5⟩, ⟨le6, ue6⟩, ⟨le7, ue7⟩, ⟨le8, ue8⟩, ⟨le9, ue9⟩, ⟨le10, ue10⟩, ⟨le11, ue11⟩, ⟨le12, ue12⟩, ⟨le13, ue13⟩, ⟨le14, ue14⟩, ⟨le15, ue15⟩, lb15, ub15⟩, ?_⟩
  have h0 := H0.out; have h1 := H1.out; have h2 := H2.out; have h3 := H3.out; have h4 := H4.out; have h5 := H5.out; have h6 := H6.out; have h7 := H7.out; have h8 := H8.out; have h9 := H9.out; have h10 := H10.out; have h11 := H11.out; have h12 := H12.out; have h13 := H13.out; have h14 := H14.out; have h15 := H15.out
  clear l0 u0 ly0 uy0 lb0 ub0 le0 ue0 l1 u1 ly1 uy1 lb1 ub1 le1 ue1 l2 u2 ly2 uy2 lb2 ub2 le2 ue2 l3 u3 ly3 uy3 lb3 ub3 le3 ue3 l4 u4 ly4 uy4 lb4 ub4 le4 ue4 l5 u5 ly5 uy5 lb5 ub5 le5 ue5 l6 u6 ly6 uy6 lb6 ub6 le6 ue6 l7 u7 ly7 uy7 lb7 ub7 le7 ue7 l8 u8 ly8 uy8 lb8 ub8 le8 ue8 l9 u9 ly9 uy9 lb9 ub9 le9 ue9 l10 u10 ly10 uy10 lb10 ub10 le10 ue10 l11 u11 ly11 uy11 lb11 ub11 le11 ue11 l12 u12 ly12 uy12 lb12 ub12 le12 ue12 l13 u13 ly13 uy13 lb13 ub13 le13 ue13 l14 u14 ly14 uy14 lb14 ub14 le14 ue14 l15 u15 ly15 uy15 lb15 ub15 le15 ue15
  simp only [v16, valL]
  omega

end Go.Proofs.YtnohfbpmckhbbaaDoor


namespace Go.Proofs.YtnohfbpmckhbbaaDoor
set_option maxRecDepth 100000
open Go.RowKit Go.Sort
attribute [local go_sem] setCell_drewN alloc_drewN


theorem minus_dg (x0 x1 x2 x3 x4 x5 x6 x7 x8 x9 x10 x11 x12 x13 x14 x15 y0 y1 y2 y3 y4 y5 y6 y7 y8 y9 y10 y11 y12 y13 y14 y15 : Int) (l0 : 0 ≤ x0) (u0 : x0 < 65536) (l1 : 0 ≤ x1) (u1 : x1 < 65536) (l2 : 0 ≤ x2) (u2 : x2 < 65536) (l3 : 0 ≤ x3) (u3 : x3 < 65536) (l4 : 0 ≤ x4) (u4 : x4 < 65536) (l5 : 0 ≤ x5) (u5 : x5 < 65536) (l6 : 0 ≤ x6) (u6 : x6 < 65536) (l7 : 0 ≤ x7) (u7 : x7 < 65536) (l8 : 0 ≤ x8) (u8 : x8 < 65536) (l9 : 0 ≤ x9) (u9 : x9 < 65536) (l10 : 0 ≤ x10) (u10 : x10 < 65536) (l11 : 0 ≤ x11) (u11 : x11 < 65536) (l12 : 0 ≤ x12) (u12 : x12 < 65536) (l13 : 0 ≤ x13) (u13 : x13 < 65536) (l14 : 0 ≤ x14) (u14 : x14 < 65536) (l15 : 0 ≤ x15) (u15 : x15 < 65536) (ly0 : 0 ≤ y0) (uy0 : y0 < 65536) (ly1 : 0 ≤ y1) (uy1 : y1 < 65536) (ly2 : 0 ≤ y2) (uy2 : y2 < 65536) (ly3 : 0 ≤ y3) (uy3 : y3 < 65536) (ly4 : 0 ≤ y4) (uy4 : y4 < 65536) (ly5 : 0 ≤ y5) (uy5 : y5 < 65536) (ly6 : 0 ≤ y6) (uy6 : y6 < 65536) (ly7 : 0 ≤ y7) (uy7 : y7 < 65536) (ly8 : 0 ≤ y8) (uy8 : y8 < 65536) (ly9 : 0 ≤ y9) (uy9 : y9 < 65536) (ly10 : 0 ≤ y10) (uy10 : y10 < 65536) (ly11 : 0 ≤ y11) (uy11 : y11 < 65536) (ly12 : 0 ≤ y12) (uy12 : y12 < 65536) (ly13 : 0 ≤ y13) (uy13 : y13 < 65536) (ly14 : 0 ≤ y14) (uy14 : y14 < 65536) (ly15 : 0 ≤ y15) (uy15 : y15 < 65536) (hle : v16 y0 y1 y2 y3 y4 y5 y6 y7 y8 y9 y10 y11 y12 y13 y14 y15 ≤ v16 x0 x1 x2 x3 x4 x5 x6 x7 x8 x9 x10 x11 x12 x13 x14 x15) (w : World) :
    Calls Tryd.prog 52 #[.agg #[.int .u64 x0, .int .u64 x1, .int .u64 x2, .int .u64 x3, .int .u64 x4, .int .u64 x5, .int .u64 x6, .int .u64 x7, .int .u64 x8, .int .u64 x9, .int .u64 x10, .int .u64 x11, .int .u64 x12, .int .u64 x13, .int .u64 x14, .int .u64 x15], .agg #[.int .u64 y0, .int .u64 y1, .int .u64 y2, .int .u64 y3, .int .u64 y4, .int .u64 y5, .int .u64 y6, .int .u64 y7, .int .u64 y8, .int .u64 y9, .int .u64 y10, .int .u64 y11, .int .u64 y12, .int .u64 y13, .int .u64 y14, .int .u64 y15]] w fun e w' => e = .returned (.agg #[.int .u64 (dg (v16 x0 x1 x2 x3 x4 x5 x6 x7 x8 x9 x10 x11 x12 x13 x14 x15 - v16 y0 y1 y2 y3 y4 y5 y6 y7 y8 y9 y10 y11 y12 y13 y14 y15) 0), .int .u64 (dg (v16 x0 x1 x2 x3 x4 x5 x6 x7 x8 x9 x10 x11 x12 x13 x14 x15 - v16 y0 y1 y2 y3 y4 y5 y6 y7 y8 y9 y10 y11 y12 y13 y14 y15) 1), .int .u64 (dg (v16 x0 x1 x2 x3 x4 x5 x6 x7 x8 x9 x10 x11 x12 x13 x14 x15 - v16 y0 y1 y2 y3 y4 y5 y6 y7 y8 y9 y10 y11 y12 y13 y14 y15) 2), .int .u64 (dg (v16 x0 x1 x2 x3 x4 x5 x6 x7 x8 x9 x10 x11 x12 x13 x14 x15 - v16 y0 y1 y2 y3 y4 y5 y6 y7 y8 y9 y10 y11 y12 y13 y14 y15) 3), .int .u64 (dg (v16 x0 x1 x2 x3 x4 x5 x6 x7 x8 x9 x10 x11 x12 x13 x14 x15 - v16 y0 y1 y2 y3 y4 y5 y6 y7 y8 y9 y10 y11 y12 y13 y14 y15) 4), .int .u64 (dg (v16 x0 x1 x2 x3 x4 x5 x6 x7 x8 x9 x10 x11 x12 x13 x14 x15 - v16 y0 y1 y2 y3 y4 y5 y6 y7 y8 y9 y10 y11 y12 y13 y14 y15) 5), .int .u64 (dg (v16 x0 x1 x2 x3 x4 x5 x6 x7 x8 x9 x10 x11 x12 x13 x14 x15 - v16 y0 y1 y2 y3 y4 y5 y6 y7 y8 y9 y10 y11 y12 y13 y14 y15) 6), .int .u64 (dg (v16 x0 x1 x2 x3 x4 x5 x6 x7 x8 x9 x10 x11 x12 x13 x14 x15 - v16 y0 y1 y2 y3 y4 y5 y6 y7 y8 y9 y10 y11 y12 y13 y14 y15) 7), .int .u64 (dg (v16 x0 x1 x2 x3 x4 x5 x6 x7 x8 x9 x10 x11 x12 x13 x14 x15 - v16 y0 y1 y2 y3 y4 y5 y6 y7 y8 y9 y10 y11 y12 y13 y14 y15) 8), .int .u64 (dg (v16 x0 x1 x2 x3 x4 x5 x6 x7 x8 x9 x10 x11 x12 x13 x14 x15 - v16 y0 y1 y2 y3 y4 y5 y6 y7 y8 y9 y10 y11 y12 y13 y14 y15) 9), .int .u64 (dg (v16 x0 x1 x2 x3 x4 x5 x6 x7 x8 x9 x10 x11 x12 x13 x14 x15 - v16 y0 y1 y2 y3 y4 y5 y6 y7 y8 y9 y10 y11 y12 y13 y14 y15) 10), .int .u64 (dg (v16 x0 x1 x2 x3 x4 x5 x6 x7 x8 x9 x10 x11 x12 x13 x14 x15 - v16 y0 y1 y2 y3 y4 y5 y6 y7 y8 y9 y10 y11 y12 y13 y14 y15) 11), .int .u64 (dg (v16 x0 x1 x2 x3 x4 x5 x6 x7 x8 x9 x10 x11 x12 x13 x14 x15 - v16 y0 y1 y2 y3 y4 y5 y6 y7 y8 y9 y10 y11 y12 y13 y14 y15) 12), .int .u64 (dg (v16 x0 x1 x2 x3 x4 x5 x6 x7 x8 x9 x10 x11 x12 x13 x14 x15 - v16 y0 y1 y2 y3 y4 y5 y6 y7 y8 y9 y10 y11 y12 y13 y14 y15) 13), .int .u64 (dg (v16 x0 x1 x2 x3 x4 x5 x6 x7 x8 x9 x10 x11 x12 x13 x14 x15 - v16 y0 y1 y2 y3 y4 y5 y6 y7 y8 y9 y10 y11 y12 y13 y14 y15) 14), .int .u64 (dg (v16 x0 x1 x2 x3 x4 x5 x6 x7 x8 x9 x10 x11 x12 x13 x14 x15 - v16 y0 y1 y2 y3 y4 y5 y6 y7 y8 y9 y10 y11 y12 y13 y14 y15) 15)]) ∧ Below w.heap.size w w' := by
  refine (minus_any x0 x1 x2 x3 x4 x5 x6 x7 x8 x9 x10 x11 x12 x13 x14 x15 y0 y1 y2 y3 y4 y5 y6 y7 y8 y9 y10 y11 y12 y13 y14 y15 l0 u0 l1 u1 l2 u2 l3 u3 l4 u4 l5 u5 l6 u6 l7 u7 l8 u8 l9 u9 l10 u10 l11 u11 l12 u12 l13 u13 l14 u14 l15 u15 ly0 uy0 ly1 uy1 ly2 uy2 ly3 uy3 ly4 uy4 ly5 uy5 ly6 uy6 ly7 uy7 ly8 uy8 ly9 uy9 ly10 uy10 ly11 uy11 ly12 uy12 ly13 uy13 ly14 uy14 ly15 uy15 w).mono ?_
  rintro e w' ⟨e0, e1, e2, e3, e4, e5, e6, e7, e8, e9, e10, e11, e12, e13, e14, e15, c, rfl, hb, ⟨⟨le0, ue0⟩, ⟨le1, ue1⟩, ⟨le2, ue2⟩, ⟨le3, ue3⟩, ⟨le4, ue4⟩, ⟨le5, ue5⟩, ⟨le6, ue6⟩, ⟨le7, ue7⟩, ⟨le8, ue8⟩, ⟨le9, ue9⟩, ⟨le10, ue10⟩, ⟨le11, ue11⟩, ⟨le12, ue12⟩, ⟨le13, ue13⟩, ⟨le14, ue14⟩, ⟨le15, ue15⟩, lc, uc⟩, hv⟩
  have hm : ∀ d ∈ [e0, e1, e2, e3, e4, e5, e6, e7, e8, e9, e10, e11, e12, e13, e14, e15], 0 ≤ d ∧ d < 65536 := (by intro d hd; simp only [List.mem_cons, List.not_mem_nil, or_false] at hd; rcases hd with rfl | rfl | rfl | rfl | rfl | rfl | rfl | rfl | rfl | rfl | rfl | rfl | rfl | rfl | rfl | rfl <;> constructor <;> assumption)
  have hbd := v16_bd _ _ _ _ _ _ _ _ _ _ _ _ _ _ _ _ hm
  have hby := v16_bd _ _ _ _ _ _ _ _ _ _ _ _ _ _ _ _ (show ∀ d ∈ [x0, x1, x2, x3, x4, x5, x6, x7, x8, x9, x10, x11, x12, x13, x14, x15], 0 ≤ d ∧ d < 65536 from (by intro d hd; simp only [List.mem_cons, List.not_mem_nil, or_false] at hd; rcases hd with rfl | rfl | rfl | rfl | rfl | rfl | rfl | rfl | rfl | rfl | rfl | rfl | rfl | rfl | rfl | rfl <;> constructor <;> assumption))
  have hbz := v16_bd _ _ _ _ _ _ _ _ _ _ _ _ _ _ _ _ (show ∀ d ∈ [y0, y1, y2, y3, y4, y5, y6, y7, y8, y9, y10, y11, y12, y13, y14, y15], 0 ≤ d ∧ d < 65536 from (by intro d hd; simp only [List.mem_cons, List.not_mem_nil, or_false] at hd; rcases hd with rfl | rfl | rfl | rfl | rfl | rfl | rfl | rfl | rfl | rfl | rfl | rfl | rfl | rfl | rfl | rfl <;> constructor <;> assumption))
  have hX : v16 x0 x1 x2 x3 x4 x5 x6 x7 x8 x9 x10 x11 x12 x13 x14 x15 - v16 y0 y1 y2 y3 y4 y5 y6 y7 y8 y9 y10 y11 y12 y13 y14 y15 = v16 e0 e1 e2 e3 e4 e5 e6 e7 e8 e9 e10 e11 e12 e13 e14 e15 := by
    generalize v16 e0 e1 e2 e3 e4 e5 e6 e7 e8 e9 e10 e11 e12 e13 e14 e15 = A at *
    generalize v16 x0 x1 x2 x3 x4 x5 x6 x7 x8 x9 x10 x11 x12 x13 x14 x15 = B at *
    generalize v16 y0 y1 y2 y3 y4 y5 y6 y7 y8 y9 y10 y11 y12 y13 y14 y15 = C at *
    omega
  obtain ⟨q0, q1, q2, q3, q4, q5, q6, q7, q8, q9, q10, q11, q12, q13, q14, q15⟩ := dg_v16 _ _ _ _ _ _ _ _ _ _ _ _ _ _ _ _ hm
  rw [hX, q0, q1, q2, q3, q4, q5, q6, q7, q8, q9, q10, q11, q12, q13, q14, q15]
  exact ⟨rfl, hb⟩

set_option maxHeartbeats 4000000 in
theorem settle_any (d0 d1 d2 d3 d4 d5 d6 d7 d8 d9 d10 d11 d12 d13 d14 d15 : Int) (lo0 : 0 ≤ d0) (hi0 : d0 ≤ 1125899906842624) (lo1 : 0 ≤ d1) (hi1 : d1 ≤ 1125899906842624) (lo2 : 0 ≤ d2) (hi2 : d2 ≤ 1125899906842624) (lo3 : 0 ≤ d3) (hi3 : d3 ≤ 1125899906842624) (lo4 : 0 ≤ d4) (hi4 : d4 ≤ 1125899906842624) (lo5 : 0 ≤ d5) (hi5 : d5 ≤ 1125899906842624) (lo6 : 0 ≤ d6) (hi6 : d6 ≤ 1125899906842624) (lo7 : 0 ≤ d7) (hi7 : d7 ≤ 1125899906842624) (lo8 : 0 ≤ d8) (hi8 : d8 ≤ 1125899906842624) (lo9 : 0 ≤ d9) (hi9 : d9 ≤ 1125899906842624) (lo10 : 0 ≤ d10) (hi10 : d10 ≤ 1125899906842624) (lo11 : 0 ≤ d11) (hi11 : d11 ≤ 1125899906842624) (lo12 : 0 ≤ d12) (hi12 : d12 ≤ 1125899906842624) (lo13 : 0 ≤ d13) (hi13 : d13 ≤ 1125899906842624) (lo14 : 0 ≤ d14) (hi14 : d14 ≤ 1125899906842624) (lo15 : 0 ≤ d15) (hi15 : d15 ≤ 1125899906842624) (w : World) :
    Calls Tryd.prog 42 #[.agg #[.int .u64 d0, .int .u64 d1, .int .u64 d2, .int .u64 d3, .int .u64 d4, .int .u64 d5, .int .u64 d6, .int .u64 d7, .int .u64 d8, .int .u64 d9, .int .u64 d10, .int .u64 d11, .int .u64 d12, .int .u64 d13, .int .u64 d14, .int .u64 d15]] w fun e w' => e = .returned (.agg #[.int .u64 (dg (v16 d0 d1 d2 d3 d4 d5 d6 d7 d8 d9 d10 d11 d12 d13 d14 d15 % prm) 0), .int .u64 (dg (v16 d0 d1 d2 d3 d4 d5 d6 d7 d8 d9 d10 d11 d12 d13 d14 d15 % prm) 1), .int .u64 (dg (v16 d0 d1 d2 d3 d4 d5 d6 d7 d8 d9 d10 d11 d12 d13 d14 d15 % prm) 2), .int .u64 (dg (v16 d0 d1 d2 d3 d4 d5 d6 d7 d8 d9 d10 d11 d12 d13 d14 d15 % prm) 3), .int .u64 (dg (v16 d0 d1 d2 d3 d4 d5 d6 d7 d8 d9 d10 d11 d12 d13 d14 d15 % prm) 4), .int .u64 (dg (v16 d0 d1 d2 d3 d4 d5 d6 d7 d8 d9 d10 d11 d12 d13 d14 d15 % prm) 5), .int .u64 (dg (v16 d0 d1 d2 d3 d4 d5 d6 d7 d8 d9 d10 d11 d12 d13 d14 d15 % prm) 6), .int .u64 (dg (v16 d0 d1 d2 d3 d4 d5 d6 d7 d8 d9 d10 d11 d12 d13 d14 d15 % prm) 7), .int .u64 (dg (v16 d0 d1 d2 d3 d4 d5 d6 d7 d8 d9 d10 d11 d12 d13 d14 d15 % prm) 8), .int .u64 (dg (v16 d0 d1 d2 d3 d4 d5 d6 d7 d8 d9 d10 d11 d12 d13 d14 d15 % prm) 9), .int .u64 (dg (v16 d0 d1 d2 d3 d4 d5 d6 d7 d8 d9 d10 d11 d12 d13 d14 d15 % prm) 10), .int .u64 (dg (v16 d0 d1 d2 d3 d4 d5 d6 d7 d8 d9 d10 d11 d12 d13 d14 d15 % prm) 11), .int .u64 (dg (v16 d0 d1 d2 d3 d4 d5 d6 d7 d8 d9 d10 d11 d12 d13 d14 d15 % prm) 12), .int .u64 (dg (v16 d0 d1 d2 d3 d4 d5 d6 d7 d8 d9 d10 d11 d12 d13 d14 d15 % prm) 13), .int .u64 (dg (v16 d0 d1 d2 d3 d4 d5 d6 d7 d8 d9 d10 d11 d12 d13 d14 d15 % prm) 14), .int .u64 (dg (v16 d0 d1 d2 d3 d4 d5 d6 d7 d8 d9 d10 d11 d12 d13 d14 d15 % prm) 15)]) ∧ Below w.heap.size w w' := by
  generalize hN : v16 d0 d1 d2 d3 d4 d5 d6 d7 d8 d9 d10 d11 d12 d13 d14 d15 = N
  have HN : Hid (v16 d0 d1 d2 d3 d4 d5 d6 d7 d8 d9 d10 d11 d12 d13 d14 d15 = N) := hN
  clear hN
  have HNb : Hid (0 ≤ N ∧ N ≤ 1989323510513129302046236010170218017325036105421427022219231999999999999999999999999999999999) := by
    have := HN.out; unfold Hid; rw [← this]; simp only [v16, valL]; omega
  go_enter Tryd.func42, Tryd.ntmps42
  go_wp2
  go_loopw [3] (fun i wr => ∃ k : Nat, k ≤ 3 ∧ i = .int .i64 k ∧ ∃ d0 d1 d2 d3 d4 d5 d6 d7 d8 d9 d10 d11 d12 d13 d14 d15 : Int, wr.heap[w.heap.size]? = some (.cells #[.int .u64 d0, .int .u64 d1, .int .u64 d2, .int .u64 d3, .int .u64 d4, .int .u64 d5, .int .u64 d6, .int .u64 d7, .int .u64 d8, .int .u64 d9, .int .u64 d10, .int .u64 d11, .int .u64 d12, .int .u64 d13, .int .u64 d14, .int .u64 d15] 28 (0, 0)) ∧ (∃ Z : Array Value, wr.heap[w.heap.size + 1]? = some (.cells Z 30 (0, 0)) ∧ Z.size = 16) ∧ Below w.heap.size w wr ∧ w.heap.size + 2 ≤ wr.heap.size ∧ ((0 ≤ d0 ∧ d0 ≤ 1125899906842624) ∧ (0 ≤ d1 ∧ d1 ≤ 1125899906842624) ∧ (0 ≤ d2 ∧ d2 ≤ 1125899906842624) ∧ (0 ≤ d3 ∧ d3 ≤ 1125899906842624) ∧ (0 ≤ d4 ∧ d4 ≤ 1125899906842624) ∧ (0 ≤ d5 ∧ d5 ≤ 1125899906842624) ∧ (0 ≤ d6 ∧ d6 ≤ 1125899906842624) ∧ (0 ≤ d7 ∧ d7 ≤ 1125899906842624) ∧ (0 ≤ d8 ∧ d8 ≤ 1125899906842624) ∧ (0 ≤ d9 ∧ d9 ≤ 1125899906842624) ∧ (0 ≤ d10 ∧ d10 ≤ 1125899906842624) ∧ (0 ≤ d11 ∧ d11 ≤ 1125899906842624) ∧ (0 ≤ d12 ∧ d12 ≤ 1125899906842624) ∧ (0 ≤ d13 ∧ d13 ≤ 1125899906842624) ∧ (0 ≤ d14 ∧ d14 ≤ 1125899906842624) ∧ (0 ≤ d15 ∧ d15 ≤ 1125899906842624)) ∧ Hid (v16 d0 d1 d2 d3 d4 d5 d6 d7 d8 d9 d10 d11 d12 d13 d14 d15 = foldK k N)) (fun i _ => 3 - (intOf i).toNat)
  case atStart => exact ⟨0, by omega, rfl, d0, d1, d2, d3, d4, d5, d6, d7, d8, d9, d10, d11, d12, d13, d14, d15, hp2_0 _ _ _, ⟨_, hp2_1 _ _ _, rfl⟩, ((Below.refl _ _).alloc (Nat.le_refl _) _).alloc (by simp) _, by simp, ⟨⟨lo0, hi0⟩, ⟨lo1, hi1⟩, ⟨lo2, hi2⟩, ⟨lo3, hi3⟩, ⟨lo4, hi4⟩, ⟨lo5, hi5⟩, ⟨lo6, hi6⟩, ⟨lo7, hi7⟩, ⟨lo8, hi8⟩, ⟨lo9, hi9⟩, ⟨lo10, hi10⟩, ⟨lo11, hi11⟩, ⟨lo12, hi12⟩, ⟨lo13, hi13⟩, ⟨lo14, hi14⟩, ⟨lo15, hi15⟩⟩, HN⟩
  case round =>
    clear lo0 hi0 lo1 hi1 lo2 hi2 lo3 hi3 lo4 hi4 lo5 hi5 lo6 hi6 lo7 hi7 lo8 hi8 lo9 hi9 lo10 hi10 lo11 hi11 lo12 hi12 lo13 hi13 lo14 hi14 lo15 hi15 HN
    obtain ⟨k, hk, rfl, a0, a1, a2, a3, a4, a5, a6, a7, a8, a9, a10, a11, a12, a13, a14, a15, hrow, ⟨Z, hZ, hZs⟩, hbel, hsz, ⟨⟨lo0, hi0⟩, ⟨lo1, hi1⟩, ⟨lo2, hi2⟩, ⟨lo3, hi3⟩, ⟨lo4, hi4⟩, ⟨lo5, hi5⟩, ⟨lo6, hi6⟩, ⟨lo7, hi7⟩, ⟨lo8, hi8⟩, ⟨lo9, hi9⟩, ⟨lo10, hi10⟩, ⟨lo11, hi11⟩, ⟨lo12, hi12⟩, ⟨lo13, hi13⟩, ⟨lo14, hi14⟩, ⟨lo15, hi15⟩⟩, HV⟩ := hrel
    by_cases hlt : k < 3
    · go_wp2_with (first | (refine wpList_load_row rfl 28 _ rfl w.heap.size rfl 28 _ (0, 0) _ hrow Tryd.underlying28 rfl (by kernel_rfl) ?_) | (go_at_call 56; refine (carried_any a0 a1 a2 a3 a4 a5 a6 a7 a8 a9 a10 a11 a12 a13 a14 a15 lo0 hi0 lo1 hi1 lo2 hi2 lo3 hi3 lo4 hi4 lo5 hi5 lo6 hi6 lo7 hi7 lo8 hi8 lo9 hi9 lo10 hi10 lo11 hi11 lo12 hi12 lo13 hi13 lo14 hi14 lo15 hi15 _).mono ?_; rintro e w1 ⟨e0, e1, e2, e3, e4, e5, e6, e7, e8, e9, e10, e11, e12, e13, e14, e15, c, rfl, hb, ⟨⟨le0, ue0⟩, ⟨le1, ue1⟩, ⟨le2, ue2⟩, ⟨le3, ue3⟩, ⟨le4, ue4⟩, ⟨le5, ue5⟩, ⟨le6, ue6⟩, ⟨le7, ue7⟩, ⟨le8, ue8⟩, ⟨le9, ue9⟩, ⟨le10, ue10⟩, ⟨le11, ue11⟩, ⟨le12, ue12⟩, ⟨le13, ue13⟩, ⟨le14, ue14⟩, ⟨le15, ue15⟩, lc, uc⟩, hv⟩; have HC := hide hv; clear hv; have hst := fun o => (Go.heap_alloc_old w1 o (show w.heap.size < w1.heap.size by have := hb.size; omega)).trans ((hb.block _ (by omega)).trans hrow)) | (refine wpList_store_row rfl 28 _ _ rfl w1.heap.size #[.int .u64 e0, .int .u64 e1, .int .u64 e2, .int .u64 e3, .int .u64 e4, .int .u64 e5, .int .u64 e6, .int .u64 e7, .int .u64 e8, .int .u64 e9, .int .u64 e10, .int .u64 e11, .int .u64 e12, .int .u64 e13, .int .u64 e14, .int .u64 e15] rfl rfl 28 _ (hp1_0 w1 _) (by kernel_rfl) rfl (by kernel_rfl) ?_; rw [setRow_alloc_new _ _ _ _ _ _ rfl]) | (refine wpList_load_row rfl 28 _ rfl w1.heap.size rfl 28 #[.int .u64 e0, .int .u64 e1, .int .u64 e2, .int .u64 e3, .int .u64 e4, .int .u64 e5, .int .u64 e6, .int .u64 e7, .int .u64 e8, .int .u64 e9, .int .u64 e10, .int .u64 e11, .int .u64 e12, .int .u64 e13, .int .u64 e14, .int .u64 e15] (0, 0) _ (hp1_0 w1 _) Tryd.underlying28 rfl (by kernel_rfl) ?_) | (refine wpList_store_row rfl 28 _ _ rfl w.heap.size #[.int .u64 e0, .int .u64 e1, .int .u64 e2, .int .u64 e3, .int .u64 e4, .int .u64 e5, .int .u64 e6, .int .u64 e7, .int .u64 e8, .int .u64 e9, .int .u64 e10, .int .u64 e11, .int .u64 e12, .int .u64 e13, .int .u64 e14, .int .u64 e15] rfl rfl 28 _ (hst _) (by kernel_rfl) rfl (by kernel_rfl) ?_; obtain ⟨k2, k2Z, kb2, ks2⟩ := row_pack (E := #[.int .u64 e0, .int .u64 e1, .int .u64 e2, .int .u64 e3, .int .u64 e4, .int .u64 e5, .int .u64 e6, .int .u64 e7, .int .u64 e8, .int .u64 e9, .int .u64 e10, .int .u64 e11, .int .u64 e12, .int .u64 e13, .int .u64 e14, .int .u64 e15]) (.cells #[.int .u64 e0, .int .u64 e1, .int .u64 e2, .int .u64 e3, .int .u64 e4, .int .u64 e5, .int .u64 e6, .int .u64 e7, .int .u64 e8, .int .u64 e9, .int .u64 e10, .int .u64 e11, .int .u64 e12, .int .u64 e13, .int .u64 e14, .int .u64 e15] 28 (0, 0)) hrow hZ hbel hsz hb; generalize World.setRow (w1.alloc (.cells #[.int .u64 e0, .int .u64 e1, .int .u64 e2, .int .u64 e3, .int .u64 e4, .int .u64 e5, .int .u64 e6, .int .u64 e7, .int .u64 e8, .int .u64 e9, .int .u64 e10, .int .u64 e11, .int .u64 e12, .int .u64 e13, .int .u64 e14, .int .u64 e15] 28 (0, 0))) w.heap.size #[.int .u64 e0, .int .u64 e1, .int .u64 e2, .int .u64 e3, .int .u64 e4, .int .u64 e5, .int .u64 e6, .int .u64 e7, .int .u64 e8, .int .u64 e9, .int .u64 e10, .int .u64 e11, .int .u64 e12, .int .u64 e13, .int .u64 e14, .int .u64 e15] = W2 at k2 k2Z kb2 ks2 ⊢; have c0 := cell_of_row W2 w.heap.size 0 _ _ _ k2; have c15 := cell_of_row W2 w.heap.size 15 _ _ _ k2; have ff := fun i => frozen_of_row W2 w.heap.size i _ _ k2; clear hrow hZ hbel hsz hst; have K2 := hide k2; have K2Z := hide k2Z; clear k2 k2Z))
      go_roundw
      case rel =>
        obtain ⟨r1, r2, r3, r4⟩ := two_cells 15 0 (.int .u64 (e15 % 32768)) (.int .u64 (e0 + (c * 2 + e15 / 32768) * 19)) K2.out K2Z.out kb2 ks2
        refine ⟨k + 1, by omega, by go_num, e0 + (c * 2 + e15 / 32768) * 19, e1, e2, e3, e4, e5, e6, e7, e8, e9, e10, e11, e12, e13, e14, e15 % 32768, r1, ⟨Z, r2, hZs⟩, r3, r4, ⟨⟨by omega, by omega⟩, ⟨le1, by omega⟩, ⟨le2, by omega⟩, ⟨le3, by omega⟩, ⟨le4, by omega⟩, ⟨le5, by omega⟩, ⟨le6, by omega⟩, ⟨le7, by omega⟩, ⟨le8, by omega⟩, ⟨le9, by omega⟩, ⟨le10, by omega⟩, ⟨le11, by omega⟩, ⟨le12, by omega⟩, ⟨le13, by omega⟩, ⟨le14, by omega⟩, by omega, by omega⟩, ?_⟩
        have hc := HC.out
        have hv := HV.out
        show v16 _ _ _ _ _ _ _ _ _ _ _ _ _ _ _ _ = fold1 (foldK k N)
        rw [← hv, ← hc]
        clear hc hv HC HV r1 r2 r3 r4 lo0 hi0 lo1 hi1 lo2 hi2 lo3 hi3 lo4 hi4 lo5 hi5 lo6 hi6 lo7 hi7 lo8 hi8 lo9 hi9 lo10 hi10 lo11 hi11 lo12 hi12 lo13 hi13 lo14 hi14 lo15 hi15
        exact fold_step e0 e1 e2 e3 e4 e5 e6 e7 e8 e9 e10 e11 e12 e13 e14 e15 c le0 ue0 le1 ue1 le2 ue2 le3 ue3 le4 ue4 le5 ue5 le6 ue6 le7 ue7 le8 ue8 le9 ue9 le10 ue10 le11 ue11 le12 ue12 le13 ue13 le14 ue14
      case measure => simp [intOf]; omega
    · obtain rfl : k = 3 := by omega
      go_wp2_with (first | (refine wpList_load_row rfl 28 _ rfl w.heap.size rfl 28 _ (0, 0) _ hrow Tryd.underlying28 rfl (by kernel_rfl) ?_) | (go_at_call 56; refine (carried_any a0 a1 a2 a3 a4 a5 a6 a7 a8 a9 a10 a11 a12 a13 a14 a15 lo0 hi0 lo1 hi1 lo2 hi2 lo3 hi3 lo4 hi4 lo5 hi5 lo6 hi6 lo7 hi7 lo8 hi8 lo9 hi9 lo10 hi10 lo11 hi11 lo12 hi12 lo13 hi13 lo14 hi14 lo15 hi15 _).mono ?_; rintro e w1 ⟨e0, e1, e2, e3, e4, e5, e6, e7, e8, e9, e10, e11, e12, e13, e14, e15, c, rfl, hb, ⟨⟨le0, ue0⟩, ⟨le1, ue1⟩, ⟨le2, ue2⟩, ⟨le3, ue3⟩, ⟨le4, ue4⟩, ⟨le5, ue5⟩, ⟨le6, ue6⟩, ⟨le7, ue7⟩, ⟨le8, ue8⟩, ⟨le9, ue9⟩, ⟨le10, ue10⟩, ⟨le11, ue11⟩, ⟨le12, ue12⟩, ⟨le13, ue13⟩, ⟨le14, ue14⟩, ⟨le15, ue15⟩, lc, uc⟩, hv⟩; have HC := hide hv; clear hv) | (refine wpList_store_row rfl 28 _ _ rfl w1.heap.size #[.int .u64 e0, .int .u64 e1, .int .u64 e2, .int .u64 e3, .int .u64 e4, .int .u64 e5, .int .u64 e6, .int .u64 e7, .int .u64 e8, .int .u64 e9, .int .u64 e10, .int .u64 e11, .int .u64 e12, .int .u64 e13, .int .u64 e14, .int .u64 e15] rfl rfl 28 _ (hp1_0 w1 _) (by kernel_rfl) rfl (by kernel_rfl) ?_; rw [setRow_alloc_new _ _ _ _ _ _ rfl]) | (refine wpList_load_row rfl 28 _ rfl w1.heap.size rfl 28 #[.int .u64 e0, .int .u64 e1, .int .u64 e2, .int .u64 e3, .int .u64 e4, .int .u64 e5, .int .u64 e6, .int .u64 e7, .int .u64 e8, .int .u64 e9, .int .u64 e10, .int .u64 e11, .int .u64 e12, .int .u64 e13, .int .u64 e14, .int .u64 e15] (0, 0) _ (hp1_0 w1 _) Tryd.underlying28 rfl (by kernel_rfl) ?_))
      have hmem : Hid (∀ d ∈ [e0, e1, e2, e3, e4, e5, e6, e7, e8, e9, e10, e11, e12, e13, e14, e15], 0 ≤ d ∧ d < 65536) := by unfold Hid; exact (by intro d hd; simp only [List.mem_cons, List.not_mem_nil, or_false] at hd; rcases hd with rfl | rfl | rfl | rfl | rfl | rfl | rfl | rfl | rfl | rfl | rfl | rfl | rfl | rfl | rfl | rfl <;> constructor <;> assumption)
      obtain ⟨hX0, hX1, hXm⟩ : Hid (v16 e0 e1 e2 e3 e4 e5 e6 e7 e8 e9 e10 e11 e12 e13 e14 e15 = foldK 3 N) ∧ Hid (0 ≤ v16 e0 e1 e2 e3 e4 e5 e6 e7 e8 e9 e10 e11 e12 e13 e14 e15 ∧ v16 e0 e1 e2 e3 e4 e5 e6 e7 e8 e9 e10 e11 e12 e13 e14 e15 < 57896044618658097711785492504343953926634992332820282019728792003956564819968) ∧ Hid (v16 e0 e1 e2 e3 e4 e5 e6 e7 e8 e9 e10 e11 e12 e13 e14 e15 % prm = N % prm) := by
        have h1 := HC.out
        have h2 := HV.out
        have h3 := fold3 N HNb.out.1 HNb.out.2
        have h4 := v16_bd e0 e1 e2 e3 e4 e5 e6 e7 e8 e9 e10 e11 e12 e13 e14 e15 hmem.out
        rw [h2] at h1
        unfold Hid
        generalize v16 e0 e1 e2 e3 e4 e5 e6 e7 e8 e9 e10 e11 e12 e13 e14 e15 = A at *
        generalize foldK 3 N = B at *
        have : A = B := by omega
        subst this
        exact ⟨rfl, ⟨h4.1, h3.2.1⟩, h3.2.2⟩
      clear HC HV
      refine (atLeast_any e0 e1 e2 e3 e4 e5 e6 e7 e8 e9 e10 e11 e12 e13 e14 e15 le0 ue0 le1 ue1 le2 ue2 le3 ue3 le4 ue4 le5 ue5 le6 ue6 le7 ue7 le8 ue8 le9 ue9 le10 ue10 le11 ue11 le12 ue12 le13 ue13 le14 ue14 le15 ue15 _).mono ?_
      rintro e' w2 ⟨rfl, hb2⟩
      have hs1 := hb.size
      have hs2 := hb2.size
      have hs2' : w1.heap.size + 1 ≤ w2.heap.size := by simpa using hs2
      have r7 : w2.heap[w1.heap.size]? = some (.cells #[.int .u64 e0, .int .u64 e1, .int .u64 e2, .int .u64 e3, .int .u64 e4, .int .u64 e5, .int .u64 e6, .int .u64 e7, .int .u64 e8, .int .u64 e9, .int .u64 e10, .int .u64 e11, .int .u64 e12, .int .u64 e13, .int .u64 e14, .int .u64 e15] 28 (0, 0)) := (hb2.block _ (by simp)).trans (hp1_0 w1 _)
      have rZ : w2.heap[w.heap.size + 1]? = some (.cells Z 30 (0, 0)) := (hb2.block _ (by simp; omega)).trans ((Go.heap_alloc_old w1 _ (by omega)).trans ((hb.block _ (by omega)).trans hZ))
      have hbw : Below w.heap.size w w2 := (hbel.trans (hb.mono (by omega))).trans (((Below.refl w.heap.size w1).alloc (by omega) _).trans (hb2.mono (by simp; omega)))
      clear hrow hZ hbel hb hb2 hs2
      cases hge : geP (v16 e0 e1 e2 e3 e4 e5 e6 e7 e8 e9 e10 e11 e12 e13 e14 e15)
      · have hlt : Hid (v16 e0 e1 e2 e3 e4 e5 e6 e7 e8 e9 e10 e11 e12 e13 e14 e15 < prm) := by
          unfold Hid prm; simp only [geP, decide_eq_false_iff_not] at hge; omega
        clear hge
        go_wp2_with (first | (refine wpList_load_row rfl 28 _ rfl w1.heap.size rfl 28 #[.int .u64 e0, .int .u64 e1, .int .u64 e2, .int .u64 e3, .int .u64 e4, .int .u64 e5, .int .u64 e6, .int .u64 e7, .int .u64 e8, .int .u64 e9, .int .u64 e10, .int .u64 e11, .int .u64 e12, .int .u64 e13, .int .u64 e14, .int .u64 e15] (0, 0) _ r7 Tryd.underlying28 rfl (by kernel_rfl) ?_) | (refine wpList_store_row rfl 30 _ _ rfl (w.heap.size + 1) #[.int .u64 e0, .int .u64 e1, .int .u64 e2, .int .u64 e3, .int .u64 e4, .int .u64 e5, .int .u64 e6, .int .u64 e7, .int .u64 e8, .int .u64 e9, .int .u64 e10, .int .u64 e11, .int .u64 e12, .int .u64 e13, .int .u64 e14, .int .u64 e15] rfl rfl 30 _ rZ (by kernel_rfl) hZs (by kernel_rfl) ?_))
        obtain ⟨q0, q1, q2, q3, q4, q5, q6, q7, q8, q9, q10, q11, q12, q13, q14, q15⟩ := dg_v16 _ _ _ _ _ _ _ _ _ _ _ _ _ _ _ _ hmem.out
        have hmod : N % prm = v16 e0 e1 e2 e3 e4 e5 e6 e7 e8 e9 e10 e11 e12 e13 e14 e15 := by
          rw [← hXm.out]; exact Int.emod_eq_of_lt hX1.out.1 hlt.out
        refine bodyPost_ret (v := .agg #[.int .u64 e0, .int .u64 e1, .int .u64 e2, .int .u64 e3, .int .u64 e4, .int .u64 e5, .int .u64 e6, .int .u64 e7, .int .u64 e8, .int .u64 e9, .int .u64 e10, .int .u64 e11, .int .u64 e12, .int .u64 e13, .int .u64 e14, .int .u64 e15]) (results_cell_row Tryd.results42 _ _ (w.heap.size + 1) _ #[.int .u64 e0, .int .u64 e1, .int .u64 e2, .int .u64 e3, .int .u64 e4, .int .u64 e5, .int .u64 e6, .int .u64 e7, .int .u64 e8, .int .u64 e9, .int .u64 e10, .int .u64 e11, .int .u64 e12, .int .u64 e13, .int .u64 e14, .int .u64 e15] _ _ rfl (setRow_heap _ _ _ _ _ _ rZ) Tryd.underlying30 rfl (by kernel_rfl)) rfl ⟨?_, below_setRow hbw (by omega) _⟩
        rw [hmod, q0, q1, q2, q3, q4, q5, q6, q7, q8, q9, q10, q11, q12, q13, q14, q15]
      · have hge' : Hid (prm ≤ v16 e0 e1 e2 e3 e4 e5 e6 e7 e8 e9 e10 e11 e12 e13 e14 e15) := by
          unfold Hid prm; simp only [geP, decide_eq_true_eq] at hge; omega
        have hvp : v16 65517 65535 65535 65535 65535 65535 65535 65535 65535 65535 65535 65535 65535 65535 65535 32767 = prm := by decide
        have hle : v16 65517 65535 65535 65535 65535 65535 65535 65535 65535 65535 65535 65535 65535 65535 65535 32767 ≤ v16 e0 e1 e2 e3 e4 e5 e6 e7 e8 e9 e10 e11 e12 e13 e14 e15 := by rw [hvp]; exact hge'.out
        have hr7 : ∀ W, (∃ p : Regrown, W = grow (redrawn w2 p.d) p.os) → W.heap[w1.heap.size]? = some (.cells #[.int .u64 e0, .int .u64 e1, .int .u64 e2, .int .u64 e3, .int .u64 e4, .int .u64 e5, .int .u64 e6, .int .u64 e7, .int .u64 e8, .int .u64 e9, .int .u64 e10, .int .u64 e11, .int .u64 e12, .int .u64 e13, .int .u64 e14, .int .u64 e15] 28 (0, 0)) := by
          rintro _ ⟨p, rfl⟩; exact ((below_regrown w2 p.d p.os).block _ (by omega)).trans r7
        go_wp2
        refine wp_region_tail (C := fun w' => ∃ p : Regrown, w' = grow (redrawn w2 p.d) p.os) 3 _ rfl rfl rfl (by kernel_rfl) (by kernel_rfl) (by kernel_rfl) (by kernel_rfl) ⟨⟨w2.drawn + 1, #[]⟩, by rw [grow_empty]; rfl⟩ ?_
        dsimp only [List.set, idle]
        refine wpQuiet_load_row rfl 28 _ rfl w1.heap.size rfl 28 #[.int .u64 e0, .int .u64 e1, .int .u64 e2, .int .u64 e3, .int .u64 e4, .int .u64 e5, .int .u64 e6, .int .u64 e7, .int .u64 e8, .int .u64 e9, .int .u64 e10, .int .u64 e11, .int .u64 e12, .int .u64 e13, .int .u64 e14, .int .u64 e15] (0, 0) _ hr7 Tryd.underlying28 rfl (by kernel_rfl) ?_
        simp only [Act.put, List.setIfInBounds_toArray, List.set_cons_succ, List.set_cons_zero]
        go_big_quiet_step (exact Calls.regrown_of (allPrime_any _))
        go_big_quiet_step (exact Calls.regrown_of (minus_dg e0 e1 e2 e3 e4 e5 e6 e7 e8 e9 e10 e11 e12 e13 e14 e15 65517 65535 65535 65535 65535 65535 65535 65535 65535 65535 65535 65535 65535 65535 65535 32767 le0 ue0 le1 ue1 le2 ue2 le3 ue3 le4 ue4 le5 ue5 le6 ue6 le7 ue7 le8 ue8 le9 ue9 le10 ue10 le11 ue11 le12 ue12 le13 ue13 le14 ue14 le15 ue15 (by omega) (by omega) (by omega) (by omega) (by omega) (by omega) (by omega) (by omega) (by omega) (by omega) (by omega) (by omega) (by omega) (by omega) (by omega) (by omega) (by omega) (by omega) (by omega) (by omega) (by omega) (by omega) (by omega) (by omega) (by omega) (by omega) (by omega) (by omega) (by omega) (by omega) (by omega) (by omega) hle _))
        refine wpQuiet_idle rfl rfl rfl ?_
        rintro _ ⟨p, rfl⟩
        have r7' := hr7 _ ⟨p, rfl⟩
        have hb3 := below_regrown w2 p.d p.os
        have rZ' : (grow (redrawn w2 p.d) p.os).heap[w.heap.size + 1]? = some (.cells Z 30 (0, 0)) := (hb3.block _ (by omega)).trans rZ
        have hb4 : Below w.heap.size w (grow (redrawn w2 p.d) p.os) := hbw.trans (hb3.mono (by omega))
        clear hr7 r7 rZ hbw hb3
        generalize grow (redrawn w2 p.d) p.os = W3 at *
        rw [hvp]
        generalize hG : v16 e0 e1 e2 e3 e4 e5 e6 e7 e8 e9 e10 e11 e12 e13 e14 e15 - prm = G
        have HG := hide hG; clear hG hvp hle
        have hZ2 : (W3.setRow w1.heap.size #[.int .u64 (dg (G) 0), .int .u64 (dg (G) 1), .int .u64 (dg (G) 2), .int .u64 (dg (G) 3), .int .u64 (dg (G) 4), .int .u64 (dg (G) 5), .int .u64 (dg (G) 6), .int .u64 (dg (G) 7), .int .u64 (dg (G) 8), .int .u64 (dg (G) 9), .int .u64 (dg (G) 10), .int .u64 (dg (G) 11), .int .u64 (dg (G) 12), .int .u64 (dg (G) 13), .int .u64 (dg (G) 14), .int .u64 (dg (G) 15)]).heap[w.heap.size + 1]? = some (.cells Z 30 (0, 0)) := (setRow_other _ _ _ _ (by omega)).trans rZ'
        have r72 : (W3.setRow w1.heap.size #[.int .u64 (dg (G) 0), .int .u64 (dg (G) 1), .int .u64 (dg (G) 2), .int .u64 (dg (G) 3), .int .u64 (dg (G) 4), .int .u64 (dg (G) 5), .int .u64 (dg (G) 6), .int .u64 (dg (G) 7), .int .u64 (dg (G) 8), .int .u64 (dg (G) 9), .int .u64 (dg (G) 10), .int .u64 (dg (G) 11), .int .u64 (dg (G) 12), .int .u64 (dg (G) 13), .int .u64 (dg (G) 14), .int .u64 (dg (G) 15)]).heap[w1.heap.size]? = some (.cells #[.int .u64 (dg (G) 0), .int .u64 (dg (G) 1), .int .u64 (dg (G) 2), .int .u64 (dg (G) 3), .int .u64 (dg (G) 4), .int .u64 (dg (G) 5), .int .u64 (dg (G) 6), .int .u64 (dg (G) 7), .int .u64 (dg (G) 8), .int .u64 (dg (G) 9), .int .u64 (dg (G) 10), .int .u64 (dg (G) 11), .int .u64 (dg (G) 12), .int .u64 (dg (G) 13), .int .u64 (dg (G) 14), .int .u64 (dg (G) 15)] 28 (0, 0)) := setRow_heap _ _ _ _ _ _ r7'
        have hb5 : Below w.heap.size w (W3.setRow w1.heap.size #[.int .u64 (dg (G) 0), .int .u64 (dg (G) 1), .int .u64 (dg (G) 2), .int .u64 (dg (G) 3), .int .u64 (dg (G) 4), .int .u64 (dg (G) 5), .int .u64 (dg (G) 6), .int .u64 (dg (G) 7), .int .u64 (dg (G) 8), .int .u64 (dg (G) 9), .int .u64 (dg (G) 10), .int .u64 (dg (G) 11), .int .u64 (dg (G) 12), .int .u64 (dg (G) 13), .int .u64 (dg (G) 14), .int .u64 (dg (G) 15)]) := below_setRow hb4 (by omega) _
        refine wpList_store_row rfl 28 _ _ rfl w1.heap.size #[.int .u64 (dg (G) 0), .int .u64 (dg (G) 1), .int .u64 (dg (G) 2), .int .u64 (dg (G) 3), .int .u64 (dg (G) 4), .int .u64 (dg (G) 5), .int .u64 (dg (G) 6), .int .u64 (dg (G) 7), .int .u64 (dg (G) 8), .int .u64 (dg (G) 9), .int .u64 (dg (G) 10), .int .u64 (dg (G) 11), .int .u64 (dg (G) 12), .int .u64 (dg (G) 13), .int .u64 (dg (G) 14), .int .u64 (dg (G) 15)] rfl rfl 28 _ r7' (by kernel_rfl) rfl (by kernel_rfl) ?_
        simp only [Act.put]
        generalize W3.setRow w1.heap.size #[.int .u64 (dg (G) 0), .int .u64 (dg (G) 1), .int .u64 (dg (G) 2), .int .u64 (dg (G) 3), .int .u64 (dg (G) 4), .int .u64 (dg (G) 5), .int .u64 (dg (G) 6), .int .u64 (dg (G) 7), .int .u64 (dg (G) 8), .int .u64 (dg (G) 9), .int .u64 (dg (G) 10), .int .u64 (dg (G) 11), .int .u64 (dg (G) 12), .int .u64 (dg (G) 13), .int .u64 (dg (G) 14), .int .u64 (dg (G) 15)] = W4 at *
        go_wp2_with (first | (refine wpList_load_row rfl 28 _ rfl w1.heap.size rfl 28 #[.int .u64 (dg (G) 0), .int .u64 (dg (G) 1), .int .u64 (dg (G) 2), .int .u64 (dg (G) 3), .int .u64 (dg (G) 4), .int .u64 (dg (G) 5), .int .u64 (dg (G) 6), .int .u64 (dg (G) 7), .int .u64 (dg (G) 8), .int .u64 (dg (G) 9), .int .u64 (dg (G) 10), .int .u64 (dg (G) 11), .int .u64 (dg (G) 12), .int .u64 (dg (G) 13), .int .u64 (dg (G) 14), .int .u64 (dg (G) 15)] (0, 0) _ r72 Tryd.underlying28 rfl (by kernel_rfl) ?_) | (refine wpList_store_row rfl 30 _ _ rfl (w.heap.size + 1) #[.int .u64 (dg (G) 0), .int .u64 (dg (G) 1), .int .u64 (dg (G) 2), .int .u64 (dg (G) 3), .int .u64 (dg (G) 4), .int .u64 (dg (G) 5), .int .u64 (dg (G) 6), .int .u64 (dg (G) 7), .int .u64 (dg (G) 8), .int .u64 (dg (G) 9), .int .u64 (dg (G) 10), .int .u64 (dg (G) 11), .int .u64 (dg (G) 12), .int .u64 (dg (G) 13), .int .u64 (dg (G) 14), .int .u64 (dg (G) 15)] rfl rfl 30 _ hZ2 (by kernel_rfl) hZs (by kernel_rfl) ?_))
        have hmod : N % prm = G := by
          rw [← hXm.out, ← HG.out]
          have h1 := hX1.out
          have h2 := hge'.out
          unfold prm at *
          omega
        refine bodyPost_ret (v := .agg #[.int .u64 (dg (G) 0), .int .u64 (dg (G) 1), .int .u64 (dg (G) 2), .int .u64 (dg (G) 3), .int .u64 (dg (G) 4), .int .u64 (dg (G) 5), .int .u64 (dg (G) 6), .int .u64 (dg (G) 7), .int .u64 (dg (G) 8), .int .u64 (dg (G) 9), .int .u64 (dg (G) 10), .int .u64 (dg (G) 11), .int .u64 (dg (G) 12), .int .u64 (dg (G) 13), .int .u64 (dg (G) 14), .int .u64 (dg (G) 15)]) (results_cell_row Tryd.results42 _ _ (w.heap.size + 1) _ #[.int .u64 (dg (G) 0), .int .u64 (dg (G) 1), .int .u64 (dg (G) 2), .int .u64 (dg (G) 3), .int .u64 (dg (G) 4), .int .u64 (dg (G) 5), .int .u64 (dg (G) 6), .int .u64 (dg (G) 7), .int .u64 (dg (G) 8), .int .u64 (dg (G) 9), .int .u64 (dg (G) 10), .int .u64 (dg (G) 11), .int .u64 (dg (G) 12), .int .u64 (dg (G) 13), .int .u64 (dg (G) 14), .int .u64 (dg (G) 15)] _ _ rfl (setRow_heap _ _ _ _ _ _ hZ2) Tryd.underlying30 rfl (by kernel_rfl)) rfl ⟨by rw [hmod], below_setRow hb5 (by omega) _⟩

end Go.Proofs.YtnohfbpmckhbbaaDoor


namespace Go.Proofs.YtnohfbpmckhbbaaDoor
set_option maxRecDepth 100000
open Go.RowKit Go.Sort
attribute [local go_sem] setCell_drewN alloc_drewN


structure Row (g : Nat → Int) (D : Array Value) : Prop where
  size : D.size = 16
  cell : ∀ i, i < 16 → D[i]? = some (.int .u64 (g i))
theorem Row.lit {g : Nat → Int} {D : Array Value} (h : Row g D) : D = #[.int .u64 (g 0), .int .u64 (g 1), .int .u64 (g 2), .int .u64 (g 3), .int .u64 (g 4), .int .u64 (g 5), .int .u64 (g 6), .int .u64 (g 7), .int .u64 (g 8), .int .u64 (g 9), .int .u64 (g 10), .int .u64 (g 11), .int .u64 (g 12), .int .u64 (g 13), .int .u64 (g 14), .int .u64 (g 15)] := by
  apply Array.ext_getElem?
  intro i
  by_cases hi : i < 16
  · rw [h.cell i hi]
    rcases (by omega : i = 0 ∨ i = 1 ∨ i = 2 ∨ i = 3 ∨ i = 4 ∨ i = 5 ∨ i = 6 ∨ i = 7 ∨ i = 8 ∨ i = 9 ∨ i = 10 ∨ i = 11 ∨ i = 12 ∨ i = 13 ∨ i = 14 ∨ i = 15) with rfl | rfl | rfl | rfl | rfl | rfl | rfl | rfl | rfl | rfl | rfl | rfl | rfl | rfl | rfl | rfl <;> rfl
  · rw [Array.getElem?_eq_none (by rw [h.size]; omega), Array.getElem?_eq_none (by simp; omega)]
theorem Row.zero : Row (fun _ => 0) #[.int .u64 0, .int .u64 0, .int .u64 0, .int .u64 0, .int .u64 0, .int .u64 0, .int .u64 0, .int .u64 0, .int .u64 0, .int .u64 0, .int .u64 0, .int .u64 0, .int .u64 0, .int .u64 0, .int .u64 0, .int .u64 0] := by
  refine ⟨rfl, fun i hi => ?_⟩
  rcases (by omega : i = 0 ∨ i = 1 ∨ i = 2 ∨ i = 3 ∨ i = 4 ∨ i = 5 ∨ i = 6 ∨ i = 7 ∨ i = 8 ∨ i = 9 ∨ i = 10 ∨ i = 11 ∨ i = 12 ∨ i = 13 ∨ i = 14 ∨ i = 15) with rfl | rfl | rfl | rfl | rfl | rfl | rfl | rfl | rfl | rfl | rfl | rfl | rfl | rfl | rfl | rfl <;> rfl
theorem Row.set {g : Nat → Int} {D : Array Value} (h : Row g D) (k : Nat) (v : Int) (hk : k < 16) : Row (upd g k v) (D.setIfInBounds k (.int .u64 (g k + v))) := by
  refine ⟨by simp [h.size], fun i hi => ?_⟩
  rw [Array.getElem?_setIfInBounds]
  by_cases e : k = i
  · subst e; rw [if_pos rfl, if_pos (by rw [h.size]; exact hk)]; simp [upd]
  · rw [if_neg e, h.cell i hi]; simp only [upd]; rw [if_neg (fun h => e h.symm)]

theorem upd_bd {g : Nat → Int} {c : Nat} (hg : ∀ t, 0 ≤ g t ∧ g t ≤ (c : Nat) * 163203776550) (k : Nat) (v : Int) (h0 : 0 ≤ v) (h1 : v ≤ 163203776550) : ∀ t, 0 ≤ upd g k v t ∧ upd g k v t ≤ ((c + 1 : Nat) : Int) * 163203776550 := by
  intro t
  have := hg t
  simp only [upd]
  split <;> omega
theorem low_step {x y g : Nat → Int} {k l : Nat} (h : ∃ q : Int, sumN 16 g + prm * q = prt x y k l) (hkl : k + l < 16) : ∃ q : Int, sumN 16 (upd g (k + l) (x k * y l)) + prm * q = prt x y k (l + 1) := by
  obtain ⟨q, hq⟩ := h
  exact ⟨q, by rw [sumN_upd _ _ _ _ hkl, prt_step, ← hq]; omega⟩
theorem high_step {x y g : Nat → Int} {k l : Nat} (h : ∃ q : Int, sumN 16 g + prm * q = prt x y k l) (hkl : 16 ≤ k + l) (hk : k < 16) (hl : l < 16) : ∃ q : Int, sumN 16 (upd g (k + l - 16) (38 * (x k * y l))) + prm * q = prt x y k (l + 1) := by
  obtain ⟨q, hq⟩ := h
  obtain ⟨q2, hq2⟩ := pow_wrap (k + l - 16) (x k * y l)
  rw [show k + l - 16 + 16 = k + l from by omega] at hq2
  exact ⟨q + q2, by rw [sumN_upd _ _ _ _ (by omega), prt_step, ← hq, ← hq2, Int.mul_add]; omega⟩

set_option maxHeartbeats 4000000 in
theorem refMul_row (x y : Nat → Int) (hx : ∀ i, 0 ≤ x i ∧ x i < 65536) (hy : ∀ i, 0 ≤ y i ∧ y i < 65536) (CA CB : Array Value) (hA : Row x CA) (hB : Row y CB) (w : World) :
    Calls Tryd.prog 28 #[.agg CA, .agg CB] w fun e w' => e = .returned (.agg #[.int .u64 (dg (sumN 16 x * sumN 16 y % prm) 0), .int .u64 (dg (sumN 16 x * sumN 16 y % prm) 1), .int .u64 (dg (sumN 16 x * sumN 16 y % prm) 2), .int .u64 (dg (sumN 16 x * sumN 16 y % prm) 3), .int .u64 (dg (sumN 16 x * sumN 16 y % prm) 4), .int .u64 (dg (sumN 16 x * sumN 16 y % prm) 5), .int .u64 (dg (sumN 16 x * sumN 16 y % prm) 6), .int .u64 (dg (sumN 16 x * sumN 16 y % prm) 7), .int .u64 (dg (sumN 16 x * sumN 16 y % prm) 8), .int .u64 (dg (sumN 16 x * sumN 16 y % prm) 9), .int .u64 (dg (sumN 16 x * sumN 16 y % prm) 10), .int .u64 (dg (sumN 16 x * sumN 16 y % prm) 11), .int .u64 (dg (sumN 16 x * sumN 16 y % prm) 12), .int .u64 (dg (sumN 16 x * sumN 16 y % prm) 13), .int .u64 (dg (sumN 16 x * sumN 16 y % prm) 14), .int .u64 (dg (sumN 16 x * sumN 16 y % prm) 15)]) ∧ Below w.heap.size w w' := by
  go_enter Tryd.func28, Tryd.ntmps28
  go_wp2
  go_loopw [6, 7] (fun i _ wr => ∃ k : Nat, k ≤ 16 ∧ i = .int .i64 k ∧ ∃ (D : Array Value) (g : Nat → Int) (m : Nat), wr = (((((w.alloc (.cells CA 30)).alloc (.cells CB 30)).alloc (.cells #[.int .u64 0, .int .u64 0, .int .u64 0, .int .u64 0, .int .u64 0, .int .u64 0, .int .u64 0, .int .u64 0, .int .u64 0, .int .u64 0, .int .u64 0, .int .u64 0, .int .u64 0, .int .u64 0, .int .u64 0, .int .u64 0] 30)).alloc (.cells D 28)).drewN m) ∧ Row g D ∧ (∀ t, 0 ≤ g t ∧ g t ≤ (16 * k : Nat) * 163203776550) ∧ Hid (∃ q : Int, sumN 16 g + prm * q = prt x y k 0)) (fun i _ _ => 16 - (intOf i).toNat)
  case atStart => exact ⟨0, by omega, rfl, #[.int .u64 0, .int .u64 0, .int .u64 0, .int .u64 0, .int .u64 0, .int .u64 0, .int .u64 0, .int .u64 0, .int .u64 0, .int .u64 0, .int .u64 0, .int .u64 0, .int .u64 0, .int .u64 0, .int .u64 0, .int .u64 0], fun _ => 0, 0, rfl, Row.zero, fun t => by simp, ⟨0, by rw [prt_zero]; simp [sumN]⟩⟩
  case round =>
    obtain ⟨k, hk, rfl, D, g, m, rfl, hD, hg, HV⟩ := hrel
    by_cases hlt : k < 16
    · have hd : decide ((k : Int) < 16) = true := by simp; omega
      have hax := hA.cell k hlt
      obtain ⟨ax0, ax1⟩ := hx k
      go_wp2
      go_loopw [7] (fun j wr => ∃ l : Nat, l ≤ 16 ∧ j = .int .i64 l ∧ ∃ (D : Array Value) (g : Nat → Int) (m : Nat), wr = (((((w.alloc (.cells CA 30)).alloc (.cells CB 30)).alloc (.cells #[.int .u64 0, .int .u64 0, .int .u64 0, .int .u64 0, .int .u64 0, .int .u64 0, .int .u64 0, .int .u64 0, .int .u64 0, .int .u64 0, .int .u64 0, .int .u64 0, .int .u64 0, .int .u64 0, .int .u64 0, .int .u64 0] 30)).alloc (.cells D 28)).drewN m) ∧ Row g D ∧ (∀ t, 0 ≤ g t ∧ g t ≤ (16 * k + l : Nat) * 163203776550) ∧ Hid (∃ q : Int, sumN 16 g + prm * q = prt x y k l)) (fun j _ => 16 - (intOf j).toNat)
      case atStart => exact ⟨0, by omega, rfl, D, g, m, rfl, hD, hg, HV⟩
      case round =>
        clear HV hg hD
        obtain ⟨l, hl, rfl, D, g, m, rfl, hD, hg, HV⟩ := hrel
        by_cases hll : l < 16
        · have hd2 : decide ((l : Int) < 16) = true := by simp; omega
          have hby := hB.cell l hll
          obtain ⟨by0, by1⟩ := hy l
          obtain ⟨pp0, pp1⟩ := mul38 (x k) (y l) ax0 ax1 by0 by1
          by_cases hkl : k + l < 16
          · have hdd := hD.cell (k + l) hkl
            have hn : ((k : Int) + (l : Int)).toNat = k + l := by omega
            have hd3 : decide ((k : Int) + (l : Int) < 16) = true := by simp; omega
            obtain ⟨gg0, gg1⟩ := hg (k + l)
            have gg2 : g (k + l) ≤ 41780166796800 := by omega
            have Hg := hide hg; clear hg gg1
            go_wp2
            go_quiet (fail)
            go_wp2
            go_roundw
            case rel => exact ⟨l + 1, by omega, by go_num, _, _, _, rfl, hD.set (k + l) (x k * y l) hkl, upd_bd Hg.out (k + l) (x k * y l) pp0 (by omega), low_step HV.out hkl⟩
            case measure => simp [intOf]; omega
          · have hdd := hD.cell (k + l - 16) (by omega)
            have hn : ((k : Int) + (l : Int) - 16).toNat = k + l - 16 := by omega
            have hd3 : decide ((k : Int) + (l : Int) < 16) = false := by simp; omega
            obtain ⟨gg0, gg1⟩ := hg (k + l - 16)
            have gg2 : g (k + l - 16) ≤ 41780166796800 := by omega
            have Hg := hide hg; clear hg gg1
            go_wp2
            go_quiet (fail)
            go_wp2
            go_roundw
            case rel => exact ⟨l + 1, by omega, by go_num, _, _, _, rfl, hD.set (k + l - 16) (38 * (x k * y l)) (by omega), upd_bd Hg.out (k + l - 16) (38 * (x k * y l)) (by omega) (by omega), high_step HV.out (by omega) hlt hll⟩
            case measure => simp [intOf]; omega
        · obtain rfl : l = 16 := by omega
          have hd2 : decide (((16 : Nat) : Int) < 16) = false := by decide
          go_wp2
          go_roundw
          case rel => exact ⟨k + 1, by omega, by go_num, D, g, m, rfl, hD, hg, by rw [prt_next]; exact HV⟩
          case measure => simp [intOf]; omega
    · obtain rfl : k = 16 := by omega
      obtain ⟨q, hq⟩ := HV.out
      have HQ := hide hq; clear hq HV hA hB hx hy
      obtain rfl := hD.lit
      obtain ⟨lo0, hi0⟩ := hg 0; obtain ⟨lo1, hi1⟩ := hg 1; obtain ⟨lo2, hi2⟩ := hg 2; obtain ⟨lo3, hi3⟩ := hg 3; obtain ⟨lo4, hi4⟩ := hg 4; obtain ⟨lo5, hi5⟩ := hg 5; obtain ⟨lo6, hi6⟩ := hg 6; obtain ⟨lo7, hi7⟩ := hg 7; obtain ⟨lo8, hi8⟩ := hg 8; obtain ⟨lo9, hi9⟩ := hg 9; obtain ⟨lo10, hi10⟩ := hg 10; obtain ⟨lo11, hi11⟩ := hg 11; obtain ⟨lo12, hi12⟩ := hg 12; obtain ⟨lo13, hi13⟩ := hg 13; obtain ⟨lo14, hi14⟩ := hg 14; obtain ⟨lo15, hi15⟩ := hg 15
      clear hg hD
      go_wp2_with (first | (refine wpList_load_row rfl 28 _ rfl (w.heap.size + 1 + 1 + 1) rfl 28 #[.int .u64 (g 0), .int .u64 (g 1), .int .u64 (g 2), .int .u64 (g 3), .int .u64 (g 4), .int .u64 (g 5), .int .u64 (g 6), .int .u64 (g 7), .int .u64 (g 8), .int .u64 (g 9), .int .u64 (g 10), .int .u64 (g 11), .int .u64 (g 12), .int .u64 (g 13), .int .u64 (g 14), .int .u64 (g 15)] (0, 0) _ (by rw [World.heap_drewN, hp4_3]) Tryd.underlying28 rfl (by kernel_rfl) ?_) | fail)
      refine (settle_any (g 0) (g 1) (g 2) (g 3) (g 4) (g 5) (g 6) (g 7) (g 8) (g 9) (g 10) (g 11) (g 12) (g 13) (g 14) (g 15) lo0 (by omega) lo1 (by omega) lo2 (by omega) lo3 (by omega) lo4 (by omega) lo5 (by omega) lo6 (by omega) lo7 (by omega) lo8 (by omega) lo9 (by omega) lo10 (by omega) lo11 (by omega) lo12 (by omega) lo13 (by omega) lo14 (by omega) lo15 (by omega) _).mono ?_
      rintro e w1 ⟨rfl, hb⟩
      rw [← sumN_v16, mod_of_sum HQ.out, prt_end]
      have rZ : w1.heap[w.heap.size + 1 + 1]? = some (.cells #[.int .u64 0, .int .u64 0, .int .u64 0, .int .u64 0, .int .u64 0, .int .u64 0, .int .u64 0, .int .u64 0, .int .u64 0, .int .u64 0, .int .u64 0, .int .u64 0, .int .u64 0, .int .u64 0, .int .u64 0, .int .u64 0] 30 (0, 0)) := (hb.block _ (by simp)).trans (by rw [World.heap_drewN, hp4_2])
      have hbw : Below w.heap.size w w1 := (below_drN (((((Below.refl _ _).alloc (Nat.le_refl _) _).alloc (by simp) _).alloc (by simp; omega) _).alloc (by simp; omega) _) _).trans (hb.mono (by simp; omega))
      clear hb HQ
      go_wp2_with (first | (refine wpList_store_row rfl 30 _ _ rfl (w.heap.size + 1 + 1) #[.int .u64 (dg (sumN 16 x * sumN 16 y % prm) 0), .int .u64 (dg (sumN 16 x * sumN 16 y % prm) 1), .int .u64 (dg (sumN 16 x * sumN 16 y % prm) 2), .int .u64 (dg (sumN 16 x * sumN 16 y % prm) 3), .int .u64 (dg (sumN 16 x * sumN 16 y % prm) 4), .int .u64 (dg (sumN 16 x * sumN 16 y % prm) 5), .int .u64 (dg (sumN 16 x * sumN 16 y % prm) 6), .int .u64 (dg (sumN 16 x * sumN 16 y % prm) 7), .int .u64 (dg (sumN 16 x * sumN 16 y % prm) 8), .int .u64 (dg (sumN 16 x * sumN 16 y % prm) 9), .int .u64 (dg (sumN 16 x * sumN 16 y % prm) 10), .int .u64 (dg (sumN 16 x * sumN 16 y % prm) 11), .int .u64 (dg (sumN 16 x * sumN 16 y % prm) 12), .int .u64 (dg (sumN 16 x * sumN 16 y % prm) 13), .int .u64 (dg (sumN 16 x * sumN 16 y % prm) 14), .int .u64 (dg (sumN 16 x * sumN 16 y % prm) 15)] rfl rfl 30 _ rZ (by kernel_rfl) rfl (by kernel_rfl) ?_) | fail)
      exact bodyPost_ret (v := .agg #[.int .u64 (dg (sumN 16 x * sumN 16 y % prm) 0), .int .u64 (dg (sumN 16 x * sumN 16 y % prm) 1), .int .u64 (dg (sumN 16 x * sumN 16 y % prm) 2), .int .u64 (dg (sumN 16 x * sumN 16 y % prm) 3), .int .u64 (dg (sumN 16 x * sumN 16 y % prm) 4), .int .u64 (dg (sumN 16 x * sumN 16 y % prm) 5), .int .u64 (dg (sumN 16 x * sumN 16 y % prm) 6), .int .u64 (dg (sumN 16 x * sumN 16 y % prm) 7), .int .u64 (dg (sumN 16 x * sumN 16 y % prm) 8), .int .u64 (dg (sumN 16 x * sumN 16 y % prm) 9), .int .u64 (dg (sumN 16 x * sumN 16 y % prm) 10), .int .u64 (dg (sumN 16 x * sumN 16 y % prm) 11), .int .u64 (dg (sumN 16 x * sumN 16 y % prm) 12), .int .u64 (dg (sumN 16 x * sumN 16 y % prm) 13), .int .u64 (dg (sumN 16 x * sumN 16 y % prm) 14), .int .u64 (dg (sumN 16 x * sumN 16 y % prm) 15)]) (results_cell_row Tryd.results28 _ _ (w.heap.size + 1 + 1) _ #[.int .u64 (dg (sumN 16 x * sumN 16 y % prm) 0), .int .u64 (dg (sumN 16 x * sumN 16 y % prm) 1), .int .u64 (dg (sumN 16 x * sumN 16 y % prm) 2), .int .u64 (dg (sumN 16 x * sumN 16 y % prm) 3), .int .u64 (dg (sumN 16 x * sumN 16 y % prm) 4), .int .u64 (dg (sumN 16 x * sumN 16 y % prm) 5), .int .u64 (dg (sumN 16 x * sumN 16 y % prm) 6), .int .u64 (dg (sumN 16 x * sumN 16 y % prm) 7), .int .u64 (dg (sumN 16 x * sumN 16 y % prm) 8), .int .u64 (dg (sumN 16 x * sumN 16 y % prm) 9), .int .u64 (dg (sumN 16 x * sumN 16 y % prm) 10), .int .u64 (dg (sumN 16 x * sumN 16 y % prm) 11), .int .u64 (dg (sumN 16 x * sumN 16 y % prm) 12), .int .u64 (dg (sumN 16 x * sumN 16 y % prm) 13), .int .u64 (dg (sumN 16 x * sumN 16 y % prm) 14), .int .u64 (dg (sumN 16 x * sumN 16 y % prm) 15)] _ _ rfl (setRow_heap _ _ _ _ _ _ rZ) Tryd.underlying30 rfl (by kernel_rfl)) rfl ⟨rfl, below_setRow hbw (by omega) _⟩

theorem Row.dg (m : Int) : Row (dg m) #[.int .u64 (dg m 0), .int .u64 (dg m 1), .int .u64 (dg m 2), .int .u64 (dg m 3), .int .u64 (dg m 4), .int .u64 (dg m 5), .int .u64 (dg m 6), .int .u64 (dg m 7), .int .u64 (dg m 8), .int .u64 (dg m 9), .int .u64 (dg m 10), .int .u64 (dg m 11), .int .u64 (dg m 12), .int .u64 (dg m 13), .int .u64 (dg m 14), .int .u64 (dg m 15)] := by
  refine ⟨rfl, fun i hi => ?_⟩
  rcases (by omega : i = 0 ∨ i = 1 ∨ i = 2 ∨ i = 3 ∨ i = 4 ∨ i = 5 ∨ i = 6 ∨ i = 7 ∨ i = 8 ∨ i = 9 ∨ i = 10 ∨ i = 11 ∨ i = 12 ∨ i = 13 ∨ i = 14 ∨ i = 15) with rfl | rfl | rfl | rfl | rfl | rfl | rfl | rfl | rfl | rfl | rfl | rfl | rfl | rfl | rfl | rfl <;> rfl
theorem refMul_dg (m k : Int) (hm0 : 0 ≤ m) (hm : m < prm) (hk0 : 0 ≤ k) (hk : k < prm) (w : World) :
    Calls Tryd.prog 28 #[.agg #[.int .u64 (dg m 0), .int .u64 (dg m 1), .int .u64 (dg m 2), .int .u64 (dg m 3), .int .u64 (dg m 4), .int .u64 (dg m 5), .int .u64 (dg m 6), .int .u64 (dg m 7), .int .u64 (dg m 8), .int .u64 (dg m 9), .int .u64 (dg m 10), .int .u64 (dg m 11), .int .u64 (dg m 12), .int .u64 (dg m 13), .int .u64 (dg m 14), .int .u64 (dg m 15)], .agg #[.int .u64 (dg k 0), .int .u64 (dg k 1), .int .u64 (dg k 2), .int .u64 (dg k 3), .int .u64 (dg k 4), .int .u64 (dg k 5), .int .u64 (dg k 6), .int .u64 (dg k 7), .int .u64 (dg k 8), .int .u64 (dg k 9), .int .u64 (dg k 10), .int .u64 (dg k 11), .int .u64 (dg k 12), .int .u64 (dg k 13), .int .u64 (dg k 14), .int .u64 (dg k 15)]] w fun e w' => e = .returned (.agg #[.int .u64 (dg (m * k % prm) 0), .int .u64 (dg (m * k % prm) 1), .int .u64 (dg (m * k % prm) 2), .int .u64 (dg (m * k % prm) 3), .int .u64 (dg (m * k % prm) 4), .int .u64 (dg (m * k % prm) 5), .int .u64 (dg (m * k % prm) 6), .int .u64 (dg (m * k % prm) 7), .int .u64 (dg (m * k % prm) 8), .int .u64 (dg (m * k % prm) 9), .int .u64 (dg (m * k % prm) 10), .int .u64 (dg (m * k % prm) 11), .int .u64 (dg (m * k % prm) 12), .int .u64 (dg (m * k % prm) 13), .int .u64 (dg (m * k % prm) 14), .int .u64 (dg (m * k % prm) 15)]) ∧ Below w.heap.size w w' := by
  have h := refMul_row (Go.Proofs.YtnohfbpmckhbbaaDoor.dg m) (Go.Proofs.YtnohfbpmckhbbaaDoor.dg k) (dg_bd m) (dg_bd k) _ _ (Row.dg m) (Row.dg k) w
  rw [sumN_dg m hm0 (by unfold prm at hm; omega), sumN_dg k hk0 (by unfold prm at hk; omega)] at h
  exact h

end Go.Proofs.YtnohfbpmckhbbaaDoor


namespace Go.Proofs.YtnohfbpmckhbbaaDoor
set_option maxRecDepth 100000
open Go.RowKit Go.Sort
attribute [local go_sem] setCell_drewN alloc_drewN


set_option maxHeartbeats 1000000 in
theorem small_any (k : Int) (h0 : 0 ≤ k) (h1 : k < 18446744073709551616) (w : World) :
    Calls Tryd.prog 12 #[.int .u64 k] w fun e w' => e = .returned (.agg #[.int .u64 (k % 2251799813685248), .int .u64 (k / 2251799813685248), .int .u64 0, .int .u64 0, .int .u64 0]) ∧ Below w.heap.size w w' := by
  go_enter Tryd.func12, Tryd.ntmps12
  go_wp2
  rw [and51 k h0 h1]
  exact bodyPost_ret (v := .agg #[.int .u64 (k % 2251799813685248), .int .u64 (k / 2251799813685248), .int .u64 0, .int .u64 0, .int .u64 0]) (results_cell_row Tryd.results12 _ _ w.heap.size _ #[.int .u64 (k % 2251799813685248), .int .u64 (k / 2251799813685248), .int .u64 0, .int .u64 0, .int .u64 0] _ _ rfl (hp1_0 w _) Tryd.underlying26 rfl (by kernel_rfl)) rfl ⟨rfl, (Below.refl _ _).alloc (Nat.le_refl _) _⟩
theorem small_val (k : Int) : v5 (k % 2251799813685248) (k / 2251799813685248) 0 0 0 = k := by unfold v5; omega

set_option maxHeartbeats 2000000 in
theorem refSmall_any (k : Int) (h0 : 0 ≤ k) (h1 : k < 18446744073709551616) (w : World) :
    Calls Tryd.prog 13 #[.int .u64 k] w fun e w' => e = .returned (.agg #[.int .u64 (dg (k) 0), .int .u64 (dg (k) 1), .int .u64 (dg (k) 2), .int .u64 (dg (k) 3), .int .u64 (dg (k) 4), .int .u64 (dg (k) 5), .int .u64 (dg (k) 6), .int .u64 (dg (k) 7), .int .u64 (dg (k) 8), .int .u64 (dg (k) 9), .int .u64 (dg (k) 10), .int .u64 (dg (k) 11), .int .u64 (dg (k) 12), .int .u64 (dg (k) 13), .int .u64 (dg (k) 14), .int .u64 (dg (k) 15)]) ∧ Below w.heap.size w w' := by
  have c := fun W => settle_any (k % 65536) (k / 65536 % 65536) (k / 65536 / 65536 % 65536) (k / 65536 / 65536 / 65536 % 65536) 0 0 0 0 0 0 0 0 0 0 0 0 (by omega) (by omega) (by omega) (by omega) (by omega) (by omega) (by omega) (by omega) (by omega) (by omega) (by omega) (by omega) (by omega) (by omega) (by omega) (by omega) (by omega) (by omega) (by omega) (by omega) (by omega) (by omega) (by omega) (by omega) (by omega) (by omega) (by omega) (by omega) (by omega) (by omega) (by omega) (by omega) W
  have hv : v16 (k % 65536) (k / 65536 % 65536) (k / 65536 / 65536 % 65536) (k / 65536 / 65536 / 65536 % 65536) 0 0 0 0 0 0 0 0 0 0 0 0 % prm = k := by
    have e : v16 (k % 65536) (k / 65536 % 65536) (k / 65536 / 65536 % 65536) (k / 65536 / 65536 / 65536 % 65536) 0 0 0 0 0 0 0 0 0 0 0 0 = k := by simp only [v16, valL]; omega
    rw [e]; exact Int.emod_eq_of_lt h0 (by unfold prm; omega)
  rw [hv] at c
  have C := hide c; clear c hv
  go_enter Tryd.func13, Tryd.ntmps13
  go_wp2
  refine wp_loop_rounds 5 ?_
  rw [rounds_succ]; go_wp2
  rw [rounds_succ]; go_wp2
  rw [rounds_succ]; go_wp2
  rw [rounds_succ]; go_wp2
  rw [rounds_succ]
  go_wp2_with (first | (refine wpList_load_row rfl 28 _ rfl (w.heap.size + 1) rfl 28 _ (0, 0) _ (hp2_1 w _ _) Tryd.underlying28 rfl (by kernel_rfl) ?_) | fail)
  refine (C.out _).mono ?_
  rintro e w1 ⟨rfl, hb⟩
  have rZ : w1.heap[w.heap.size]? = some (.cells #[.int .u64 0, .int .u64 0, .int .u64 0, .int .u64 0, .int .u64 0, .int .u64 0, .int .u64 0, .int .u64 0, .int .u64 0, .int .u64 0, .int .u64 0, .int .u64 0, .int .u64 0, .int .u64 0, .int .u64 0, .int .u64 0] 30 (0, 0)) := (hb.block _ (by simp; omega)).trans (hp2_0 w _ _)
  have hbw : Below w.heap.size w w1 := (((Below.refl _ _).alloc (Nat.le_refl _) _).alloc (by simp) _).trans (hb.mono (by simp; omega))
  clear hb
  go_wp2_with (first | (refine wpList_store_row rfl 30 _ _ rfl w.heap.size #[.int .u64 (dg (k) 0), .int .u64 (dg (k) 1), .int .u64 (dg (k) 2), .int .u64 (dg (k) 3), .int .u64 (dg (k) 4), .int .u64 (dg (k) 5), .int .u64 (dg (k) 6), .int .u64 (dg (k) 7), .int .u64 (dg (k) 8), .int .u64 (dg (k) 9), .int .u64 (dg (k) 10), .int .u64 (dg (k) 11), .int .u64 (dg (k) 12), .int .u64 (dg (k) 13), .int .u64 (dg (k) 14), .int .u64 (dg (k) 15)] rfl rfl 30 _ rZ (by kernel_rfl) rfl (by kernel_rfl) ?_) | fail)
  exact bodyPost_ret (v := .agg #[.int .u64 (dg (k) 0), .int .u64 (dg (k) 1), .int .u64 (dg (k) 2), .int .u64 (dg (k) 3), .int .u64 (dg (k) 4), .int .u64 (dg (k) 5), .int .u64 (dg (k) 6), .int .u64 (dg (k) 7), .int .u64 (dg (k) 8), .int .u64 (dg (k) 9), .int .u64 (dg (k) 10), .int .u64 (dg (k) 11), .int .u64 (dg (k) 12), .int .u64 (dg (k) 13), .int .u64 (dg (k) 14), .int .u64 (dg (k) 15)]) (results_cell_row Tryd.results13 _ _ w.heap.size _ #[.int .u64 (dg (k) 0), .int .u64 (dg (k) 1), .int .u64 (dg (k) 2), .int .u64 (dg (k) 3), .int .u64 (dg (k) 4), .int .u64 (dg (k) 5), .int .u64 (dg (k) 6), .int .u64 (dg (k) 7), .int .u64 (dg (k) 8), .int .u64 (dg (k) 9), .int .u64 (dg (k) 10), .int .u64 (dg (k) 11), .int .u64 (dg (k) 12), .int .u64 (dg (k) 13), .int .u64 (dg (k) 14), .int .u64 (dg (k) 15)] _ _ rfl (setRow_heap _ _ _ _ _ _ rZ) Tryd.underlying30 rfl (by kernel_rfl)) rfl ⟨rfl, below_setRow hbw (by omega) _⟩


set_option maxHeartbeats 2000000 in
theorem refTimes_any (m k : Int) (hm0 : 0 ≤ m) (hm : m < prm) (h0 : 0 ≤ k) (h1 : k < 4294967296) (w : World) :
    Calls Tryd.prog 30 #[.agg #[.int .u64 (dg (m) 0), .int .u64 (dg (m) 1), .int .u64 (dg (m) 2), .int .u64 (dg (m) 3), .int .u64 (dg (m) 4), .int .u64 (dg (m) 5), .int .u64 (dg (m) 6), .int .u64 (dg (m) 7), .int .u64 (dg (m) 8), .int .u64 (dg (m) 9), .int .u64 (dg (m) 10), .int .u64 (dg (m) 11), .int .u64 (dg (m) 12), .int .u64 (dg (m) 13), .int .u64 (dg (m) 14), .int .u64 (dg (m) 15)], .int .u32 k] w fun e w' => e = .returned (.agg #[.int .u64 (dg (m * k % prm) 0), .int .u64 (dg (m * k % prm) 1), .int .u64 (dg (m * k % prm) 2), .int .u64 (dg (m * k % prm) 3), .int .u64 (dg (m * k % prm) 4), .int .u64 (dg (m * k % prm) 5), .int .u64 (dg (m * k % prm) 6), .int .u64 (dg (m * k % prm) 7), .int .u64 (dg (m * k % prm) 8), .int .u64 (dg (m * k % prm) 9), .int .u64 (dg (m * k % prm) 10), .int .u64 (dg (m * k % prm) 11), .int .u64 (dg (m * k % prm) 12), .int .u64 (dg (m * k % prm) 13), .int .u64 (dg (m * k % prm) 14), .int .u64 (dg (m * k % prm) 15)]) ∧ Below w.heap.size w w' := by
  have c1 := fun W => refSmall_any k h0 (by omega) W
  have c2 := fun W => refMul_dg m k hm0 hm h0 (by unfold prm; omega) W
  have C1 := hide c1; have C2 := hide c2; clear c1 c2
  generalize m * k % prm = q at *
  have hB : ∀ W, (∃ p : Regrown, W = grow (redrawn ((w.alloc (.cells #[.int .u64 (dg (m) 0), .int .u64 (dg (m) 1), .int .u64 (dg (m) 2), .int .u64 (dg (m) 3), .int .u64 (dg (m) 4), .int .u64 (dg (m) 5), .int .u64 (dg (m) 6), .int .u64 (dg (m) 7), .int .u64 (dg (m) 8), .int .u64 (dg (m) 9), .int .u64 (dg (m) 10), .int .u64 (dg (m) 11), .int .u64 (dg (m) 12), .int .u64 (dg (m) 13), .int .u64 (dg (m) 14), .int .u64 (dg (m) 15)] 30)).alloc (.cells #[.int .u64 0, .int .u64 0, .int .u64 0, .int .u64 0, .int .u64 0, .int .u64 0, .int .u64 0, .int .u64 0, .int .u64 0, .int .u64 0, .int .u64 0, .int .u64 0, .int .u64 0, .int .u64 0, .int .u64 0, .int .u64 0] 30)) p.d) p.os) → W.heap[w.heap.size]? = some (.cells #[.int .u64 (dg (m) 0), .int .u64 (dg (m) 1), .int .u64 (dg (m) 2), .int .u64 (dg (m) 3), .int .u64 (dg (m) 4), .int .u64 (dg (m) 5), .int .u64 (dg (m) 6), .int .u64 (dg (m) 7), .int .u64 (dg (m) 8), .int .u64 (dg (m) 9), .int .u64 (dg (m) 10), .int .u64 (dg (m) 11), .int .u64 (dg (m) 12), .int .u64 (dg (m) 13), .int .u64 (dg (m) 14), .int .u64 (dg (m) 15)] 30 (0, 0)) := by
    rintro _ ⟨p, rfl⟩; exact ((below_regrown _ p.d p.os).block _ (by simp; omega)).trans (hp2_0 w _ _)
  have HB := hide hB; clear hB
  go_enter Tryd.func30, Tryd.ntmps30
  go_wp2
  refine wp_region_tail (C := fun w' => ∃ p : Regrown, w' = grow (redrawn ((w.alloc (.cells #[.int .u64 (dg (m) 0), .int .u64 (dg (m) 1), .int .u64 (dg (m) 2), .int .u64 (dg (m) 3), .int .u64 (dg (m) 4), .int .u64 (dg (m) 5), .int .u64 (dg (m) 6), .int .u64 (dg (m) 7), .int .u64 (dg (m) 8), .int .u64 (dg (m) 9), .int .u64 (dg (m) 10), .int .u64 (dg (m) 11), .int .u64 (dg (m) 12), .int .u64 (dg (m) 13), .int .u64 (dg (m) 14), .int .u64 (dg (m) 15)] 30)).alloc (.cells #[.int .u64 0, .int .u64 0, .int .u64 0, .int .u64 0, .int .u64 0, .int .u64 0, .int .u64 0, .int .u64 0, .int .u64 0, .int .u64 0, .int .u64 0, .int .u64 0, .int .u64 0, .int .u64 0, .int .u64 0, .int .u64 0] 30)) p.d) p.os) 5 _ rfl rfl rfl (by kernel_rfl) (by kernel_rfl) (by kernel_rfl) (by kernel_rfl) ⟨⟨((w.alloc (.cells #[.int .u64 (dg (m) 0), .int .u64 (dg (m) 1), .int .u64 (dg (m) 2), .int .u64 (dg (m) 3), .int .u64 (dg (m) 4), .int .u64 (dg (m) 5), .int .u64 (dg (m) 6), .int .u64 (dg (m) 7), .int .u64 (dg (m) 8), .int .u64 (dg (m) 9), .int .u64 (dg (m) 10), .int .u64 (dg (m) 11), .int .u64 (dg (m) 12), .int .u64 (dg (m) 13), .int .u64 (dg (m) 14), .int .u64 (dg (m) 15)] 30)).alloc (.cells #[.int .u64 0, .int .u64 0, .int .u64 0, .int .u64 0, .int .u64 0, .int .u64 0, .int .u64 0, .int .u64 0, .int .u64 0, .int .u64 0, .int .u64 0, .int .u64 0, .int .u64 0, .int .u64 0, .int .u64 0, .int .u64 0] 30)).drawn + 1, #[]⟩, by rw [grow_empty]; rfl⟩ ?_
  dsimp only [List.set, idle]
  refine wpQuiet_load_row rfl 30 _ rfl w.heap.size rfl 30 #[.int .u64 (dg (m) 0), .int .u64 (dg (m) 1), .int .u64 (dg (m) 2), .int .u64 (dg (m) 3), .int .u64 (dg (m) 4), .int .u64 (dg (m) 5), .int .u64 (dg (m) 6), .int .u64 (dg (m) 7), .int .u64 (dg (m) 8), .int .u64 (dg (m) 9), .int .u64 (dg (m) 10), .int .u64 (dg (m) 11), .int .u64 (dg (m) 12), .int .u64 (dg (m) 13), .int .u64 (dg (m) 14), .int .u64 (dg (m) 15)] (0, 0) _ HB.out Tryd.underlying30 rfl (by kernel_rfl) ?_
  simp only [Act.put, List.setIfInBounds_toArray, List.set_cons_succ, List.set_cons_zero]
  go_big_quiet_step (fail)
  go_big_quiet_step (fail)
  go_big_quiet_step (exact Calls.regrown_of (C1.out _))
  go_big_quiet_step (exact Calls.regrown_of (C2.out _))
  refine wpQuiet_idle rfl rfl rfl ?_
  rintro _ ⟨p, rfl⟩
  have hB := below_regrown ((w.alloc (.cells #[.int .u64 (dg (m) 0), .int .u64 (dg (m) 1), .int .u64 (dg (m) 2), .int .u64 (dg (m) 3), .int .u64 (dg (m) 4), .int .u64 (dg (m) 5), .int .u64 (dg (m) 6), .int .u64 (dg (m) 7), .int .u64 (dg (m) 8), .int .u64 (dg (m) 9), .int .u64 (dg (m) 10), .int .u64 (dg (m) 11), .int .u64 (dg (m) 12), .int .u64 (dg (m) 13), .int .u64 (dg (m) 14), .int .u64 (dg (m) 15)] 30)).alloc (.cells #[.int .u64 0, .int .u64 0, .int .u64 0, .int .u64 0, .int .u64 0, .int .u64 0, .int .u64 0, .int .u64 0, .int .u64 0, .int .u64 0, .int .u64 0, .int .u64 0, .int .u64 0, .int .u64 0, .int .u64 0, .int .u64 0] 30)) p.d p.os
  clear HB
  generalize grow (redrawn ((w.alloc (.cells #[.int .u64 (dg (m) 0), .int .u64 (dg (m) 1), .int .u64 (dg (m) 2), .int .u64 (dg (m) 3), .int .u64 (dg (m) 4), .int .u64 (dg (m) 5), .int .u64 (dg (m) 6), .int .u64 (dg (m) 7), .int .u64 (dg (m) 8), .int .u64 (dg (m) 9), .int .u64 (dg (m) 10), .int .u64 (dg (m) 11), .int .u64 (dg (m) 12), .int .u64 (dg (m) 13), .int .u64 (dg (m) 14), .int .u64 (dg (m) 15)] 30)).alloc (.cells #[.int .u64 0, .int .u64 0, .int .u64 0, .int .u64 0, .int .u64 0, .int .u64 0, .int .u64 0, .int .u64 0, .int .u64 0, .int .u64 0, .int .u64 0, .int .u64 0, .int .u64 0, .int .u64 0, .int .u64 0, .int .u64 0] 30)) p.d) p.os = W1 at *
  have rZ : W1.heap[w.heap.size + 1]? = some (.cells #[.int .u64 0, .int .u64 0, .int .u64 0, .int .u64 0, .int .u64 0, .int .u64 0, .int .u64 0, .int .u64 0, .int .u64 0, .int .u64 0, .int .u64 0, .int .u64 0, .int .u64 0, .int .u64 0, .int .u64 0, .int .u64 0] 30 (0, 0)) := (hB.block _ (by simp)).trans (hp2_1 w _ _)
  have hbw : Below w.heap.size w W1 := (((Below.refl _ _).alloc (Nat.le_refl _) _).alloc (by simp) _).trans (hB.mono (by simp; omega))
  clear hB
  go_wp2_with (first | (refine wpList_store_row rfl 30 _ _ rfl (w.heap.size + 1) #[.int .u64 (dg (q) 0), .int .u64 (dg (q) 1), .int .u64 (dg (q) 2), .int .u64 (dg (q) 3), .int .u64 (dg (q) 4), .int .u64 (dg (q) 5), .int .u64 (dg (q) 6), .int .u64 (dg (q) 7), .int .u64 (dg (q) 8), .int .u64 (dg (q) 9), .int .u64 (dg (q) 10), .int .u64 (dg (q) 11), .int .u64 (dg (q) 12), .int .u64 (dg (q) 13), .int .u64 (dg (q) 14), .int .u64 (dg (q) 15)] rfl rfl 30 _ rZ (by kernel_rfl) rfl (by kernel_rfl) ?_) | fail)
  exact bodyPost_ret (v := .agg #[.int .u64 (dg (q) 0), .int .u64 (dg (q) 1), .int .u64 (dg (q) 2), .int .u64 (dg (q) 3), .int .u64 (dg (q) 4), .int .u64 (dg (q) 5), .int .u64 (dg (q) 6), .int .u64 (dg (q) 7), .int .u64 (dg (q) 8), .int .u64 (dg (q) 9), .int .u64 (dg (q) 10), .int .u64 (dg (q) 11), .int .u64 (dg (q) 12), .int .u64 (dg (q) 13), .int .u64 (dg (q) 14), .int .u64 (dg (q) 15)]) (results_cell_row Tryd.results30 _ _ (w.heap.size + 1) _ #[.int .u64 (dg (q) 0), .int .u64 (dg (q) 1), .int .u64 (dg (q) 2), .int .u64 (dg (q) 3), .int .u64 (dg (q) 4), .int .u64 (dg (q) 5), .int .u64 (dg (q) 6), .int .u64 (dg (q) 7), .int .u64 (dg (q) 8), .int .u64 (dg (q) 9), .int .u64 (dg (q) 10), .int .u64 (dg (q) 11), .int .u64 (dg (q) 12), .int .u64 (dg (q) 13), .int .u64 (dg (q) 14), .int .u64 (dg (q) 15)] _ _ rfl (setRow_heap _ _ _ _ _ _ rZ) Tryd.underlying30 rfl (by kernel_rfl)) rfl ⟨rfl, below_setRow hbw (by omega) _⟩

end Go.Proofs.YtnohfbpmckhbbaaDoor


namespace Go.Proofs.YtnohfbpmckhbbaaDoor
set_option maxRecDepth 100000
open Go.RowKit Go.Sort
attribute [local go_sem] setCell_drewN alloc_drewN


theorem valB_byt (m : Int) (h0 : 0 ≤ m) (h1 : m < 115792089237316195423570985008687907853269984665640564039457584007913129639936) : valB [byt (m) 0, byt (m) 1, byt (m) 2, byt (m) 3, byt (m) 4, byt (m) 5, byt (m) 6, byt (m) 7, byt (m) 8, byt (m) 9, byt (m) 10, byt (m) 11, byt (m) 12, byt (m) 13, byt (m) 14, byt (m) 15, byt (m) 16, byt (m) 17, byt (m) 18, byt (m) 19, byt (m) 20, byt (m) 21, byt (m) 22, byt (m) 23, byt (m) 24, byt (m) 25, byt (m) 26, byt (m) 27, byt (m) 28, byt (m) 29, byt (m) 30, byt (m) 31] = m := by
  simp only [valB, byt, Int.pow_zero, Int.pow_succ, Int.one_mul, Int.ediv_one]
  omega
theorem byts_inj (m k : Int) (h0 : 0 ≤ m) (h1 : m < 115792089237316195423570985008687907853269984665640564039457584007913129639936) (h2 : 0 ≤ k) (h3 : k < 115792089237316195423570985008687907853269984665640564039457584007913129639936) : ([byt (m) 0, byt (m) 1, byt (m) 2, byt (m) 3, byt (m) 4, byt (m) 5, byt (m) 6, byt (m) 7, byt (m) 8, byt (m) 9, byt (m) 10, byt (m) 11, byt (m) 12, byt (m) 13, byt (m) 14, byt (m) 15, byt (m) 16, byt (m) 17, byt (m) 18, byt (m) 19, byt (m) 20, byt (m) 21, byt (m) 22, byt (m) 23, byt (m) 24, byt (m) 25, byt (m) 26, byt (m) 27, byt (m) 28, byt (m) 29, byt (m) 30, byt (m) 31] = [byt (k) 0, byt (k) 1, byt (k) 2, byt (k) 3, byt (k) 4, byt (k) 5, byt (k) 6, byt (k) 7, byt (k) 8, byt (k) 9, byt (k) 10, byt (k) 11, byt (k) 12, byt (k) 13, byt (k) 14, byt (k) 15, byt (k) 16, byt (k) 17, byt (k) 18, byt (k) 19, byt (k) 20, byt (k) 21, byt (k) 22, byt (k) 23, byt (k) 24, byt (k) 25, byt (k) 26, byt (k) 27, byt (k) 28, byt (k) 29, byt (k) 30, byt (k) 31]) ↔ m = k := by
  constructor
  · intro h
    have e := congrArg valB h
    rw [valB_byt m h0 h1, valB_byt k h2 h3] at e
    exact e
  · rintro rfl; rfl
theorem prm_bd (x : Int) : 0 ≤ x % prm ∧ x % prm < 115792089237316195423570985008687907853269984665640564039457584007913129639936 := by unfold prm; omega
theorem keys_eq (m k : Int) (h0 : 0 ≤ m) (h1 : m < 115792089237316195423570985008687907853269984665640564039457584007913129639936) (h2 : 0 ≤ k) (h3 : k < 115792089237316195423570985008687907853269984665640564039457584007913129639936) (W : World) : (Op.equalIn 10000 34 (.agg #[.int .u8 (byt (m) 0), .int .u8 (byt (m) 1), .int .u8 (byt (m) 2), .int .u8 (byt (m) 3), .int .u8 (byt (m) 4), .int .u8 (byt (m) 5), .int .u8 (byt (m) 6), .int .u8 (byt (m) 7), .int .u8 (byt (m) 8), .int .u8 (byt (m) 9), .int .u8 (byt (m) 10), .int .u8 (byt (m) 11), .int .u8 (byt (m) 12), .int .u8 (byt (m) 13), .int .u8 (byt (m) 14), .int .u8 (byt (m) 15), .int .u8 (byt (m) 16), .int .u8 (byt (m) 17), .int .u8 (byt (m) 18), .int .u8 (byt (m) 19), .int .u8 (byt (m) 20), .int .u8 (byt (m) 21), .int .u8 (byt (m) 22), .int .u8 (byt (m) 23), .int .u8 (byt (m) 24), .int .u8 (byt (m) 25), .int .u8 (byt (m) 26), .int .u8 (byt (m) 27), .int .u8 (byt (m) 28), .int .u8 (byt (m) 29), .int .u8 (byt (m) 30), .int .u8 (byt (m) 31)]) (.agg #[.int .u8 (byt (k) 0), .int .u8 (byt (k) 1), .int .u8 (byt (k) 2), .int .u8 (byt (k) 3), .int .u8 (byt (k) 4), .int .u8 (byt (k) 5), .int .u8 (byt (k) 6), .int .u8 (byt (k) 7), .int .u8 (byt (k) 8), .int .u8 (byt (k) 9), .int .u8 (byt (k) 10), .int .u8 (byt (k) 11), .int .u8 (byt (k) 12), .int .u8 (byt (k) 13), .int .u8 (byt (k) 14), .int .u8 (byt (k) 15), .int .u8 (byt (k) 16), .int .u8 (byt (k) 17), .int .u8 (byt (k) 18), .int .u8 (byt (k) 19), .int .u8 (byt (k) 20), .int .u8 (byt (k) 21), .int .u8 (byt (k) 22), .int .u8 (byt (k) 23), .int .u8 (byt (k) 24), .int .u8 (byt (k) 25), .int .u8 (byt (k) 26), .int .u8 (byt (k) 27), .int .u8 (byt (k) 28), .int .u8 (byt (k) 29), .int .u8 (byt (k) 30), .int .u8 (byt (k) 31)])).run Tryd.prog W = .ok (decide (m = k)) W := by
  rw [keys_equal]
  exact congrArg (fun b => Result.ok b W) (decide_eq_decide.2 (byts_inj m k h0 h1 h2 h3))

set_option maxHeartbeats 1000000 in
theorem equal_any (a0 a1 a2 a3 a4 b0 b1 b2 b3 b4 : Int) (la0 : 0 ≤ a0) (ua0 : a0 < 4503599627370496) (la1 : 0 ≤ a1) (ua1 : a1 < 4503599627370496) (la2 : 0 ≤ a2) (ua2 : a2 < 4503599627370496) (la3 : 0 ≤ a3) (ua3 : a3 < 4503599627370496) (la4 : 0 ≤ a4) (ua4 : a4 < 4503599627370496) (lb0 : 0 ≤ b0) (ub0 : b0 < 4503599627370496) (lb1 : 0 ≤ b1) (ub1 : b1 < 4503599627370496) (lb2 : 0 ≤ b2) (ub2 : b2 < 4503599627370496) (lb3 : 0 ≤ b3) (ub3 : b3 < 4503599627370496) (lb4 : 0 ≤ b4) (ub4 : b4 < 4503599627370496) (w : World) :
    Calls Tryd.prog 34 #[.agg #[.int .u64 a0, .int .u64 a1, .int .u64 a2, .int .u64 a3, .int .u64 a4], .agg #[.int .u64 b0, .int .u64 b1, .int .u64 b2, .int .u64 b3, .int .u64 b4]] w fun e w' => e = .returned (.bool (decide (v5 a0 a1 a2 a3 a4 % prm = v5 b0 b1 b2 b3 b4 % prm))) ∧ Below w.heap.size w w' := by
  have c1 := fun W => bytes_any a0 a1 a2 a3 a4 la0 ua0 la1 ua1 la2 ua2 la3 ua3 la4 ua4 W
  have c2 := fun W => bytes_any b0 b1 b2 b3 b4 lb0 ub0 lb1 ub1 lb2 ub2 lb3 ub3 lb4 ub4 W
  have m0 := prm_bd (v5 a0 a1 a2 a3 a4); have k0 := prm_bd (v5 b0 b1 b2 b3 b4)
  generalize v5 a0 a1 a2 a3 a4 % prm = m at *
  generalize v5 b0 b1 b2 b3 b4 % prm = k at *
  have heq := fun W => keys_eq m k m0.1 m0.2 k0.1 k0.2 W
  have C1 := hide c1; have C2 := hide c2
  clear c1 c2 m0 k0 la0 ua0 la1 ua1 la2 ua2 la3 ua3 la4 ua4 lb0 ub0 lb1 ub1 lb2 ub2 lb3 ub3 lb4 ub4
  have h2 : Hid (∀ W, (∃ p : Regrown, W = grow (redrawn ((w.alloc (.cells #[.int .u64 a0, .int .u64 a1, .int .u64 a2, .int .u64 a3, .int .u64 a4] 26)).alloc (.cells #[.int .u64 b0, .int .u64 b1, .int .u64 b2, .int .u64 b3, .int .u64 b4] 26)) p.d) p.os) → W.heap[w.heap.size]? = some (.cells #[.int .u64 a0, .int .u64 a1, .int .u64 a2, .int .u64 a3, .int .u64 a4] 26 (0, 0))) := by
    rintro _ ⟨p, rfl⟩; exact ((below_regrown _ p.d p.os).block _ (by simp; omega)).trans (hp2_0 w _ _)
  have h3 : Hid (∀ W, (∃ p : Regrown, W = grow (redrawn ((w.alloc (.cells #[.int .u64 a0, .int .u64 a1, .int .u64 a2, .int .u64 a3, .int .u64 a4] 26)).alloc (.cells #[.int .u64 b0, .int .u64 b1, .int .u64 b2, .int .u64 b3, .int .u64 b4] 26)) p.d) p.os) → W.heap[w.heap.size + 1]? = some (.cells #[.int .u64 b0, .int .u64 b1, .int .u64 b2, .int .u64 b3, .int .u64 b4] 26 (0, 0))) := by
    rintro _ ⟨p, rfl⟩; exact ((below_regrown _ p.d p.os).block _ (by simp)).trans (hp2_1 w _ _)
  go_enter Tryd.func34, Tryd.ntmps34
  go_wp2
  refine wp_region_quiet_below (by kernel_rfl) (by kernel_rfl) ?_
  refine wpQuiet_load_row rfl 26 _ rfl w.heap.size rfl 26 #[.int .u64 a0, .int .u64 a1, .int .u64 a2, .int .u64 a3, .int .u64 a4] (0, 0) _ h2.out Tryd.underlying26 rfl (by kernel_rfl) ?_
  simp only [Act.put, List.setIfInBounds_toArray, List.set_cons_succ, List.set_cons_zero]
  go_big_quiet_step (exact Calls.regrown_of (C1.out _))
  refine wpQuiet_load_row rfl 26 _ rfl (w.heap.size + 1) rfl 26 #[.int .u64 b0, .int .u64 b1, .int .u64 b2, .int .u64 b3, .int .u64 b4] (0, 0) _ h3.out Tryd.underlying26 rfl (by kernel_rfl) ?_
  simp only [Act.put, List.setIfInBounds_toArray, List.set_cons_succ, List.set_cons_zero]
  go_big_quiet_step (exact Calls.regrown_of (C2.out _))
  repeat (go_big_quiet_step (fail))
  refine wpQuiet_nil ?_
  rintro _ ⟨p, rfl⟩
  have hb := below_regrown ((w.alloc (.cells #[.int .u64 a0, .int .u64 a1, .int .u64 a2, .int .u64 a3, .int .u64 a4] 26)).alloc (.cells #[.int .u64 b0, .int .u64 b1, .int .u64 b2, .int .u64 b3, .int .u64 b4] 26)) p.d p.os
  generalize grow (redrawn ((w.alloc (.cells #[.int .u64 a0, .int .u64 a1, .int .u64 a2, .int .u64 a3, .int .u64 a4] 26)).alloc (.cells #[.int .u64 b0, .int .u64 b1, .int .u64 b2, .int .u64 b3, .int .u64 b4] 26)) p.d) p.os = W1 at *
  go_wp2
  go_ret
  exact ⟨rfl, (((Below.refl _ _).alloc (Nat.le_refl _) _).alloc (by simp) _).trans (hb.mono (by simp; omega))⟩

set_option maxHeartbeats 1000000 in
theorem isZero_any (a0 a1 a2 a3 a4 : Int) (la0 : 0 ≤ a0) (ua0 : a0 < 4503599627370496) (la1 : 0 ≤ a1) (ua1 : a1 < 4503599627370496) (la2 : 0 ≤ a2) (ua2 : a2 < 4503599627370496) (la3 : 0 ≤ a3) (ua3 : a3 < 4503599627370496) (la4 : 0 ≤ a4) (ua4 : a4 < 4503599627370496) (w : World) :
    Calls Tryd.prog 36 #[.agg #[.int .u64 a0, .int .u64 a1, .int .u64 a2, .int .u64 a3, .int .u64 a4]] w fun e w' => e = .returned (.bool (decide (v5 a0 a1 a2 a3 a4 % prm = 0))) ∧ Below w.heap.size w w' := by
  have c1 := fun W => bytes_any a0 a1 a2 a3 a4 la0 ua0 la1 ua1 la2 ua2 la3 ua3 la4 ua4 W
  have m0 := prm_bd (v5 a0 a1 a2 a3 a4)
  generalize v5 a0 a1 a2 a3 a4 % prm = m at *
  have hz : ∀ W, (Op.equalIn 10000 34 (.agg #[.int .u8 (byt (m) 0), .int .u8 (byt (m) 1), .int .u8 (byt (m) 2), .int .u8 (byt (m) 3), .int .u8 (byt (m) 4), .int .u8 (byt (m) 5), .int .u8 (byt (m) 6), .int .u8 (byt (m) 7), .int .u8 (byt (m) 8), .int .u8 (byt (m) 9), .int .u8 (byt (m) 10), .int .u8 (byt (m) 11), .int .u8 (byt (m) 12), .int .u8 (byt (m) 13), .int .u8 (byt (m) 14), .int .u8 (byt (m) 15), .int .u8 (byt (m) 16), .int .u8 (byt (m) 17), .int .u8 (byt (m) 18), .int .u8 (byt (m) 19), .int .u8 (byt (m) 20), .int .u8 (byt (m) 21), .int .u8 (byt (m) 22), .int .u8 (byt (m) 23), .int .u8 (byt (m) 24), .int .u8 (byt (m) 25), .int .u8 (byt (m) 26), .int .u8 (byt (m) 27), .int .u8 (byt (m) 28), .int .u8 (byt (m) 29), .int .u8 (byt (m) 30), .int .u8 (byt (m) 31)]) (.agg #[.int .u8 0, .int .u8 0, .int .u8 0, .int .u8 0, .int .u8 0, .int .u8 0, .int .u8 0, .int .u8 0, .int .u8 0, .int .u8 0, .int .u8 0, .int .u8 0, .int .u8 0, .int .u8 0, .int .u8 0, .int .u8 0, .int .u8 0, .int .u8 0, .int .u8 0, .int .u8 0, .int .u8 0, .int .u8 0, .int .u8 0, .int .u8 0, .int .u8 0, .int .u8 0, .int .u8 0, .int .u8 0, .int .u8 0, .int .u8 0, .int .u8 0, .int .u8 0])).run Tryd.prog W = .ok (decide (m = 0)) W := fun W => by
    have := keys_eq m 0 m0.1 m0.2 (by decide) (by decide) W
    simpa [byt] using this
  have C1 := hide c1
  clear c1 m0 la0 ua0 la1 ua1 la2 ua2 la3 ua3 la4 ua4
  go_enter Tryd.func36, Tryd.ntmps36
  go_wp2_with (first | (refine wpList_load_row rfl 26 _ rfl w.heap.size rfl 26 #[.int .u64 a0, .int .u64 a1, .int .u64 a2, .int .u64 a3, .int .u64 a4] (0, 0) _ (hp1_0 w _) Tryd.underlying26 rfl (by kernel_rfl) ?_) | fail)
  refine (C1.out _).mono ?_
  rintro e w1 ⟨rfl, hb⟩
  go_wp2
  go_ret
  exact ⟨rfl, ((Below.refl _ _).alloc (Nat.le_refl _) _).trans (hb.mono (by simp))⟩



end Go.Proofs.YtnohfbpmckhbbaaDoor


namespace Go.Proofs.YtnohfbpmckhbbaaDoor
set_option maxRecDepth 100000
open Go.RowKit Go.Sort
attribute [local go_sem] setCell_drewN alloc_drewN


/-- Whether all is as high as it can be, up to place k. -/
def bg (t : Int) (g : Nat → Int) : Nat → Bool
  | 0 => t == 127
  | k + 1 => bg t g k && (g (k + 1) == 255)
theorem bg_all (t : Int) (g : Nat → Int) : ∀ k, bg t g k = true → t = 127 ∧ ∀ j, 1 ≤ j → j ≤ k → g j = 255
  | 0, h => by simp [bg] at h; exact ⟨h, fun j h1 h2 => by omega⟩
  | k + 1, h => by
    simp only [bg, Bool.and_eq_true, beq_iff_eq] at h
    obtain ⟨h1, h2⟩ := bg_all t g k h.1
    refine ⟨h1, fun j a1 a2 => ?_⟩
    by_cases e : j = k + 1
    · subst e; exact h.2
    · exact h2 j a1 (by omega)
theorem bg_not (t : Int) (g : Nat → Int) : ∀ k, bg t g k = false → t ≠ 127 ∨ ∃ j, 1 ≤ j ∧ j ≤ k ∧ g j ≠ 255
  | 0, h => by simp [bg] at h; exact .inl h
  | k + 1, h => by
    simp only [bg, Bool.and_eq_false_iff, beq_eq_false_iff_ne] at h
    rcases h with h | h
    · rcases bg_not t g k h with h | ⟨j, h1, h2, h3⟩
      · exact .inl h
      · exact .inr ⟨j, h1, by omega, h3⟩
    · exact .inr ⟨k + 1, by omega, by omega, h⟩
def gl (l : List Int) (i : Nat) : Int := l.getD i 0
theorem low_byts (b0 b1 b2 b3 b4 b5 b6 b7 b8 b9 b10 b11 b12 b13 b14 b15 b16 b17 b18 b19 b20 b21 b22 b23 b24 b25 b26 b27 b28 b29 b30 b31 : Int) (lo0 : 0 ≤ b0) (hi0 : b0 < 256) (lo1 : 0 ≤ b1) (hi1 : b1 < 256) (lo2 : 0 ≤ b2) (hi2 : b2 < 256) (lo3 : 0 ≤ b3) (hi3 : b3 < 256) (lo4 : 0 ≤ b4) (hi4 : b4 < 256) (lo5 : 0 ≤ b5) (hi5 : b5 < 256) (lo6 : 0 ≤ b6) (hi6 : b6 < 256) (lo7 : 0 ≤ b7) (hi7 : b7 < 256) (lo8 : 0 ≤ b8) (hi8 : b8 < 256) (lo9 : 0 ≤ b9) (hi9 : b9 < 256) (lo10 : 0 ≤ b10) (hi10 : b10 < 256) (lo11 : 0 ≤ b11) (hi11 : b11 < 256) (lo12 : 0 ≤ b12) (hi12 : b12 < 256) (lo13 : 0 ≤ b13) (hi13 : b13 < 256) (lo14 : 0 ≤ b14) (hi14 : b14 < 256) (lo15 : 0 ≤ b15) (hi15 : b15 < 256) (lo16 : 0 ≤ b16) (hi16 : b16 < 256) (lo17 : 0 ≤ b17) (hi17 : b17 < 256) (lo18 : 0 ≤ b18) (hi18 : b18 < 256) (lo19 : 0 ≤ b19) (hi19 : b19 < 256) (lo20 : 0 ≤ b20) (hi20 : b20 < 256) (lo21 : 0 ≤ b21) (hi21 : b21 < 256) (lo22 : 0 ≤ b22) (hi22 : b22 < 256) (lo23 : 0 ≤ b23) (hi23 : b23 < 256) (lo24 : 0 ≤ b24) (hi24 : b24 < 256) (lo25 : 0 ≤ b25) (hi25 : b25 < 256) (lo26 : 0 ≤ b26) (hi26 : b26 < 256) (lo27 : 0 ≤ b27) (hi27 : b27 < 256) (lo28 : 0 ≤ b28) (hi28 : b28 < 256) (lo29 : 0 ≤ b29) (hi29 : b29 < 256) (lo30 : 0 ≤ b30) (hi30 : b30 < 256) (h : kv b0 b1 b2 b3 b4 b5 b6 b7 b8 b9 b10 b11 b12 b13 b14 b15 b16 b17 b18 b19 b20 b21 b22 b23 b24 b25 b26 b27 b28 b29 b30 (b31 % 128) < prm) : (#[.int .u8 b0, .int .u8 b1, .int .u8 b2, .int .u8 b3, .int .u8 b4, .int .u8 b5, .int .u8 b6, .int .u8 b7, .int .u8 b8, .int .u8 b9, .int .u8 b10, .int .u8 b11, .int .u8 b12, .int .u8 b13, .int .u8 b14, .int .u8 b15, .int .u8 b16, .int .u8 b17, .int .u8 b18, .int .u8 b19, .int .u8 b20, .int .u8 b21, .int .u8 b22, .int .u8 b23, .int .u8 b24, .int .u8 b25, .int .u8 b26, .int .u8 b27, .int .u8 b28, .int .u8 b29, .int .u8 b30, .int .u8 (b31 % 128)] : Array Value) = #[.int .u8 (byt (kv b0 b1 b2 b3 b4 b5 b6 b7 b8 b9 b10 b11 b12 b13 b14 b15 b16 b17 b18 b19 b20 b21 b22 b23 b24 b25 b26 b27 b28 b29 b30 b31 % 57896044618658097711785492504343953926634992332820282019728792003956564819968 % prm) 0), .int .u8 (byt (kv b0 b1 b2 b3 b4 b5 b6 b7 b8 b9 b10 b11 b12 b13 b14 b15 b16 b17 b18 b19 b20 b21 b22 b23 b24 b25 b26 b27 b28 b29 b30 b31 % 57896044618658097711785492504343953926634992332820282019728792003956564819968 % prm) 1), .int .u8 (byt (kv b0 b1 b2 b3 b4 b5 b6 b7 b8 b9 b10 b11 b12 b13 b14 b15 b16 b17 b18 b19 b20 b21 b22 b23 b24 b25 b26 b27 b28 b29 b30 b31 % 57896044618658097711785492504343953926634992332820282019728792003956564819968 % prm) 2), .int .u8 (byt (kv b0 b1 b2 b3 b4 b5 b6 b7 b8 b9 b10 b11 b12 b13 b14 b15 b16 b17 b18 b19 b20 b21 b22 b23 b24 b25 b26 b27 b28 b29 b30 b31 % 57896044618658097711785492504343953926634992332820282019728792003956564819968 % prm) 3), .int .u8 (byt (kv b0 b1 b2 b3 b4 b5 b6 b7 b8 b9 b10 b11 b12 b13 b14 b15 b16 b17 b18 b19 b20 b21 b22 b23 b24 b25 b26 b27 b28 b29 b30 b31 % 57896044618658097711785492504343953926634992332820282019728792003956564819968 % prm) 4), .int .u8 (byt (kv b0 b1 b2 b3 b4 b5 b6 b7 b8 b9 b10 b11 b12 b13 b14 b15 b16 b17 b18 b19 b20 b21 b22 b23 b24 b25 b26 b27 b28 b29 b30 b31 % 57896044618658097711785492504343953926634992332820282019728792003956564819968 % prm) 5), .int .u8 (byt (kv b0 b1 b2 b3 b4 b5 b6 b7 b8 b9 b10 b11 b12 b13 b14 b15 b16 b17 b18 b19 b20 b21 b22 b23 b24 b25 b26 b27 b28 b29 b30 b31 % 57896044618658097711785492504343953926634992332820282019728792003956564819968 % prm) 6), .int .u8 (byt (kv b0 b1 b2 b3 b4 b5 b6 b7 b8 b9 b10 b11 b12 b13 b14 b15 b16 b17 b18 b19 b20 b21 b22 b23 b24 b25 b26 b27 b28 b29 b30 b31 % 57896044618658097711785492504343953926634992332820282019728792003956564819968 % prm) 7), .int .u8 (byt (kv b0 b1 b2 b3 b4 b5 b6 b7 b8 b9 b10 b11 b12 b13 b14 b15 b16 b17 b18 b19 b20 b21 b22 b23 b24 b25 b26 b27 b28 b29 b30 b31 % 57896044618658097711785492504343953926634992332820282019728792003956564819968 % prm) 8), .int .u8 (byt (kv b0 b1 b2 b3 b4 b5 b6 b7 b8 b9 b10 b11 b12 b13 b14 b15 b16 b17 b18 b19 b20 b21 b22 b23 b24 b25 b26 b27 b28 b29 b30 b31 % 57896044618658097711785492504343953926634992332820282019728792003956564819968 % prm) 9), .int .u8 (byt (kv b0 b1 b2 b3 b4 b5 b6 b7 b8 b9 b10 b11 b12 b13 b14 b15 b16 b17 b18 b19 b20 b21 b22 b23 b24 b25 b26 b27 b28 b29 b30 b31 % 57896044618658097711785492504343953926634992332820282019728792003956564819968 % prm) 10), .int .u8 (byt (kv b0 b1 b2 b3 b4 b5 b6 b7 b8 b9 b10 b11 b12 b13 b14 b15 b16 b17 b18 b19 b20 b21 b22 b23 b24 b25 b26 b27 b28 b29 b30 b31 % 57896044618658097711785492504343953926634992332820282019728792003956564819968 % prm) 11), .int .u8 (byt (kv b0 b1 b2 b3 b4 b5 b6 b7 b8 b9 b10 b11 b12 b13 b14 b15 b16 b17 b18 b19 b20 b21 b22 b23 b24 b25 b26 b27 b28 b29 b30 b31 % 57896044618658097711785492504343953926634992332820282019728792003956564819968 % prm) 12), .int .u8 (byt (kv b0 b1 b2 b3 b4 b5 b6 b7 b8 b9 b10 b11 b12 b13 b14 b15 b16 b17 b18 b19 b20 b21 b22 b23 b24 b25 b26 b27 b28 b29 b30 b31 % 57896044618658097711785492504343953926634992332820282019728792003956564819968 % prm) 13), .int .u8 (byt (kv b0 b1 b2 b3 b4 b5 b6 b7 b8 b9 b10 b11 b12 b13 b14 b15 b16 b17 b18 b19 b20 b21 b22 b23 b24 b25 b26 b27 b28 b29 b30 b31 % 57896044618658097711785492504343953926634992332820282019728792003956564819968 % prm) 14), .int .u8 (byt (kv b0 b1 b2 b3 b4 b5 b6 b7 b8 b9 b10 b11 b12 b13 b14 b15 b16 b17 b18 b19 b20 b21 b22 b23 b24 b25 b26 b27 b28 b29 b30 b31 % 57896044618658097711785492504343953926634992332820282019728792003956564819968 % prm) 15), .int .u8 (byt (kv b0 b1 b2 b3 b4 b5 b6 b7 b8 b9 b10 b11 b12 b13 b14 b15 b16 b17 b18 b19 b20 b21 b22 b23 b24 b25 b26 b27 b28 b29 b30 b31 % 57896044618658097711785492504343953926634992332820282019728792003956564819968 % prm) 16), .int .u8 (byt (kv b0 b1 b2 b3 b4 b5 b6 b7 b8 b9 b10 b11 b12 b13 b14 b15 b16 b17 b18 b19 b20 b21 b22 b23 b24 b25 b26 b27 b28 b29 b30 b31 % 57896044618658097711785492504343953926634992332820282019728792003956564819968 % prm) 17), .int .u8 (byt (kv b0 b1 b2 b3 b4 b5 b6 b7 b8 b9 b10 b11 b12 b13 b14 b15 b16 b17 b18 b19 b20 b21 b22 b23 b24 b25 b26 b27 b28 b29 b30 b31 % 57896044618658097711785492504343953926634992332820282019728792003956564819968 % prm) 18), .int .u8 (byt (kv b0 b1 b2 b3 b4 b5 b6 b7 b8 b9 b10 b11 b12 b13 b14 b15 b16 b17 b18 b19 b20 b21 b22 b23 b24 b25 b26 b27 b28 b29 b30 b31 % 57896044618658097711785492504343953926634992332820282019728792003956564819968 % prm) 19), .int .u8 (byt (kv b0 b1 b2 b3 b4 b5 b6 b7 b8 b9 b10 b11 b12 b13 b14 b15 b16 b17 b18 b19 b20 b21 b22 b23 b24 b25 b26 b27 b28 b29 b30 b31 % 57896044618658097711785492504343953926634992332820282019728792003956564819968 % prm) 20), .int .u8 (byt (kv b0 b1 b2 b3 b4 b5 b6 b7 b8 b9 b10 b11 b12 b13 b14 b15 b16 b17 b18 b19 b20 b21 b22 b23 b24 b25 b26 b27 b28 b29 b30 b31 % 57896044618658097711785492504343953926634992332820282019728792003956564819968 % prm) 21), .int .u8 (byt (kv b0 b1 b2 b3 b4 b5 b6 b7 b8 b9 b10 b11 b12 b13 b14 b15 b16 b17 b18 b19 b20 b21 b22 b23 b24 b25 b26 b27 b28 b29 b30 b31 % 57896044618658097711785492504343953926634992332820282019728792003956564819968 % prm) 22), .int .u8 (byt (kv b0 b1 b2 b3 b4 b5 b6 b7 b8 b9 b10 b11 b12 b13 b14 b15 b16 b17 b18 b19 b20 b21 b22 b23 b24 b25 b26 b27 b28 b29 b30 b31 % 57896044618658097711785492504343953926634992332820282019728792003956564819968 % prm) 23), .int .u8 (byt (kv b0 b1 b2 b3 b4 b5 b6 b7 b8 b9 b10 b11 b12 b13 b14 b15 b16 b17 b18 b19 b20 b21 b22 b23 b24 b25 b26 b27 b28 b29 b30 b31 % 57896044618658097711785492504343953926634992332820282019728792003956564819968 % prm) 24), .int .u8 (byt (kv b0 b1 b2 b3 b4 b5 b6 b7 b8 b9 b10 b11 b12 b13 b14 b15 b16 b17 b18 b19 b20 b21 b22 b23 b24 b25 b26 b27 b28 b29 b30 b31 % 57896044618658097711785492504343953926634992332820282019728792003956564819968 % prm) 25), .int .u8 (byt (kv b0 b1 b2 b3 b4 b5 b6 b7 b8 b9 b10 b11 b12 b13 b14 b15 b16 b17 b18 b19 b20 b21 b22 b23 b24 b25 b26 b27 b28 b29 b30 b31 % 57896044618658097711785492504343953926634992332820282019728792003956564819968 % prm) 26), .int .u8 (byt (kv b0 b1 b2 b3 b4 b5 b6 b7 b8 b9 b10 b11 b12 b13 b14 b15 b16 b17 b18 b19 b20 b21 b22 b23 b24 b25 b26 b27 b28 b29 b30 b31 % 57896044618658097711785492504343953926634992332820282019728792003956564819968 % prm) 27), .int .u8 (byt (kv b0 b1 b2 b3 b4 b5 b6 b7 b8 b9 b10 b11 b12 b13 b14 b15 b16 b17 b18 b19 b20 b21 b22 b23 b24 b25 b26 b27 b28 b29 b30 b31 % 57896044618658097711785492504343953926634992332820282019728792003956564819968 % prm) 28), .int .u8 (byt (kv b0 b1 b2 b3 b4 b5 b6 b7 b8 b9 b10 b11 b12 b13 b14 b15 b16 b17 b18 b19 b20 b21 b22 b23 b24 b25 b26 b27 b28 b29 b30 b31 % 57896044618658097711785492504343953926634992332820282019728792003956564819968 % prm) 29), .int .u8 (byt (kv b0 b1 b2 b3 b4 b5 b6 b7 b8 b9 b10 b11 b12 b13 b14 b15 b16 b17 b18 b19 b20 b21 b22 b23 b24 b25 b26 b27 b28 b29 b30 b31 % 57896044618658097711785492504343953926634992332820282019728792003956564819968 % prm) 30), .int .u8 (byt (kv b0 b1 b2 b3 b4 b5 b6 b7 b8 b9 b10 b11 b12 b13 b14 b15 b16 b17 b18 b19 b20 b21 b22 b23 b24 b25 b26 b27 b28 b29 b30 b31 % 57896044618658097711785492504343953926634992332820282019728792003956564819968 % prm) 31)] := by
  have hm : ∀ d ∈ [b0, b1, b2, b3, b4, b5, b6, b7, b8, b9, b10, b11, b12, b13, b14, b15, b16, b17, b18, b19, b20, b21, b22, b23, b24, b25, b26, b27, b28, b29, b30, b31 % 128], 0 ≤ d ∧ d < 256 := by
    intro d hd; simp only [List.mem_cons, List.not_mem_nil, or_false] at hd; rcases hd with rfl | rfl | rfl | rfl | rfl | rfl | rfl | rfl | rfl | rfl | rfl | rfl | rfl | rfl | rfl | rfl | rfl | rfl | rfl | rfl | rfl | rfl | rfl | rfl | rfl | rfl | rfl | rfl | rfl | rfl | rfl | rfl <;> constructor <;> omega
  have h0 := valB_lt _ hm
  have e1 : kv b0 b1 b2 b3 b4 b5 b6 b7 b8 b9 b10 b11 b12 b13 b14 b15 b16 b17 b18 b19 b20 b21 b22 b23 b24 b25 b26 b27 b28 b29 b30 b31 % 57896044618658097711785492504343953926634992332820282019728792003956564819968 = kv b0 b1 b2 b3 b4 b5 b6 b7 b8 b9 b10 b11 b12 b13 b14 b15 b16 b17 b18 b19 b20 b21 b22 b23 b24 b25 b26 b27 b28 b29 b30 (b31 % 128) := by
    have e2 : kv b0 b1 b2 b3 b4 b5 b6 b7 b8 b9 b10 b11 b12 b13 b14 b15 b16 b17 b18 b19 b20 b21 b22 b23 b24 b25 b26 b27 b28 b29 b30 b31 = kv b0 b1 b2 b3 b4 b5 b6 b7 b8 b9 b10 b11 b12 b13 b14 b15 b16 b17 b18 b19 b20 b21 b22 b23 b24 b25 b26 b27 b28 b29 b30 (b31 % 128) + 57896044618658097711785492504343953926634992332820282019728792003956564819968 * (b31 / 128) := by simp only [kv, valB]; omega
    have h3 : 0 ≤ kv b0 b1 b2 b3 b4 b5 b6 b7 b8 b9 b10 b11 b12 b13 b14 b15 b16 b17 b18 b19 b20 b21 b22 b23 b24 b25 b26 b27 b28 b29 b30 (b31 % 128) := h0.1
    unfold prm at h
    rw [e2]
    generalize kv b0 b1 b2 b3 b4 b5 b6 b7 b8 b9 b10 b11 b12 b13 b14 b15 b16 b17 b18 b19 b20 b21 b22 b23 b24 b25 b26 b27 b28 b29 b30 (b31 % 128) = X at *
    omega
  have h3 : 0 ≤ kv b0 b1 b2 b3 b4 b5 b6 b7 b8 b9 b10 b11 b12 b13 b14 b15 b16 b17 b18 b19 b20 b21 b22 b23 b24 b25 b26 b27 b28 b29 b30 (b31 % 128) := h0.1
  rw [e1, Int.emod_eq_of_lt h3 h]
  have q := fun i hi => byt_valB _ hm i hi
  have q0 := q 0 (by simp); have q1 := q 1 (by simp); have q2 := q 2 (by simp); have q3 := q 3 (by simp); have q4 := q 4 (by simp); have q5 := q 5 (by simp); have q6 := q 6 (by simp); have q7 := q 7 (by simp); have q8 := q 8 (by simp); have q9 := q 9 (by simp); have q10 := q 10 (by simp); have q11 := q 11 (by simp); have q12 := q 12 (by simp); have q13 := q 13 (by simp); have q14 := q 14 (by simp); have q15 := q 15 (by simp); have q16 := q 16 (by simp); have q17 := q 17 (by simp); have q18 := q 18 (by simp); have q19 := q 19 (by simp); have q20 := q 20 (by simp); have q21 := q 21 (by simp); have q22 := q 22 (by simp); have q23 := q 23 (by simp); have q24 := q 24 (by simp); have q25 := q 25 (by simp); have q26 := q 26 (by simp); have q27 := q 27 (by simp); have q28 := q 28 (by simp); have q29 := q 29 (by simp); have q30 := q 30 (by simp); have q31 := q 31 (by simp)
  unfold kv
  rw [q0, q1, q2, q3, q4, q5, q6, q7, q8, q9, q10, q11, q12, q13, q14, q15, q16, q17, q18, q19, q20, q21, q22, q23, q24, q25, q26, q27, q28, q29, q30, q31]
  rfl
theorem high_byts (b0 : Int) (b31 : Int) (l0 : 237 ≤ b0) (h0 : b0 < 256) (h31 : b31 % 128 = 127) : (#[.int .u8 (b0 - 237), .int .u8 0, .int .u8 0, .int .u8 0, .int .u8 0, .int .u8 0, .int .u8 0, .int .u8 0, .int .u8 0, .int .u8 0, .int .u8 0, .int .u8 0, .int .u8 0, .int .u8 0, .int .u8 0, .int .u8 0, .int .u8 0, .int .u8 0, .int .u8 0, .int .u8 0, .int .u8 0, .int .u8 0, .int .u8 0, .int .u8 0, .int .u8 0, .int .u8 0, .int .u8 0, .int .u8 0, .int .u8 0, .int .u8 0, .int .u8 0, .int .u8 0] : Array Value) = #[.int .u8 (byt (kv b0 255 255 255 255 255 255 255 255 255 255 255 255 255 255 255 255 255 255 255 255 255 255 255 255 255 255 255 255 255 255 b31 % 57896044618658097711785492504343953926634992332820282019728792003956564819968 % prm) 0), .int .u8 (byt (kv b0 255 255 255 255 255 255 255 255 255 255 255 255 255 255 255 255 255 255 255 255 255 255 255 255 255 255 255 255 255 255 b31 % 57896044618658097711785492504343953926634992332820282019728792003956564819968 % prm) 1), .int .u8 (byt (kv b0 255 255 255 255 255 255 255 255 255 255 255 255 255 255 255 255 255 255 255 255 255 255 255 255 255 255 255 255 255 255 b31 % 57896044618658097711785492504343953926634992332820282019728792003956564819968 % prm) 2), .int .u8 (byt (kv b0 255 255 255 255 255 255 255 255 255 255 255 255 255 255 255 255 255 255 255 255 255 255 255 255 255 255 255 255 255 255 b31 % 57896044618658097711785492504343953926634992332820282019728792003956564819968 % prm) 3), .int .u8 (byt (kv b0 255 255 255 255 255 255 255 255 255 255 255 255 255 255 255 255 255 255 255 255 255 255 255 255 255 255 255 255 255 255 b31 % 57896044618658097711785492504343953926634992332820282019728792003956564819968 % prm) 4), .int .u8 (byt (kv b0 255 255 255 255 255 255 255 255 255 255 255 255 255 255 255 255 255 255 255 255 255 255 255 255 255 255 255 255 255 255 b31 % 57896044618658097711785492504343953926634992332820282019728792003956564819968 % prm) 5), .int .u8 (byt (kv b0 255 255 255 255 255 255 255 255 255 255 255 255 255 255 255 255 255 255 255 255 255 255 255 255 255 255 255 255 255 255 b31 % 57896044618658097711785492504343953926634992332820282019728792003956564819968 % prm) 6), .int .u8 (byt (kv b0 255 255 255 255 255 255 255 255 255 255 255 255 255 255 255 255 255 255 255 255 255 255 255 255 255 255 255 255 255 255 b31 % 57896044618658097711785492504343953926634992332820282019728792003956564819968 % prm) 7), .int .u8 (byt (kv b0 255 255 255 255 255 255 255 255 255 255 255 255 255 255 255 255 255 255 255 255 255 255 255 255 255 255 255 255 255 255 b31 % 57896044618658097711785492504343953926634992332820282019728792003956564819968 % prm) 8), .int .u8 (byt (kv b0 255 255 255 255 255 255 255 255 255 255 255 255 255 255 255 255 255 255 255 255 255 255 255 255 255 255 255 255 255 255 b31 % 57896044618658097711785492504343953926634992332820282019728792003956564819968 % prm) 9), .int .u8 (byt (kv b0 255 255 255 255 255 255 255 255 255 255 255 255 255 255 255 255 255 255 255 255 255 255 255 255 255 255 255 255 255 255 b31 % 57896044618658097711785492504343953926634992332820282019728792003956564819968 % prm) 10), .int .u8 (byt (kv b0 255 255 255 255 255 255 255 255 255 255 255 255 255 255 255 255 255 255 255 255 255 255 255 255 255 255 255 255 255 255 b31 % 57896044618658097711785492504343953926634992332820282019728792003956564819968 % prm) 11), .int .u8 (byt (kv b0 255 255 255 255 255 255 255 255 255 255 255 255 255 255 255 255 255 255 255 255 255 255 255 255 255 255 255 255 255 255 b31 % 57896044618658097711785492504343953926634992332820282019728792003956564819968 % prm) 12), .int .u8 (byt (kv b0 255 255 255 255 255 255 255 255 255 255 255 255 255 255 255 255 255 255 255 255 255 255 255 255 255 255 255 255 255 255 b31 % 57896044618658097711785492504343953926634992332820282019728792003956564819968 % prm) 13), .int .u8 (byt (kv b0 255 255 255 255 255 255 255 255 255 255 255 255 255 255 255 255 255 255 255 255 255 255 255 255 255 255 255 255 255 255 b31 % 57896044618658097711785492504343953926634992332820282019728792003956564819968 % prm) 14), .int .u8 (byt (kv b0 255 255 255 255 255 255 255 255 255 255 255 255 255 255 255 255 255 255 255 255 255 255 255 255 255 255 255 255 255 255 b31 % 57896044618658097711785492504343953926634992332820282019728792003956564819968 % prm) 15), .int .u8 (byt (kv b0 255 255 255 255 255 255 255 255 255 255 255 255 255 255 255 255 255 255 255 255 255 255 255 255 255 255 255 255 255 255 b31 % 57896044618658097711785492504343953926634992332820282019728792003956564819968 % prm) 16), .int .u8 (byt (kv b0 255 255 255 255 255 255 255 255 255 255 255 255 255 255 255 255 255 255 255 255 255 255 255 255 255 255 255 255 255 255 b31 % 57896044618658097711785492504343953926634992332820282019728792003956564819968 % prm) 17), .int .u8 (byt (kv b0 255 255 255 255 255 255 255 255 255 255 255 255 255 255 255 255 255 255 255 255 255 255 255 255 255 255 255 255 255 255 b31 % 57896044618658097711785492504343953926634992332820282019728792003956564819968 % prm) 18), .int .u8 (byt (kv b0 255 255 255 255 255 255 255 255 255 255 255 255 255 255 255 255 255 255 255 255 255 255 255 255 255 255 255 255 255 255 b31 % 57896044618658097711785492504343953926634992332820282019728792003956564819968 % prm) 19), .int .u8 (byt (kv b0 255 255 255 255 255 255 255 255 255 255 255 255 255 255 255 255 255 255 255 255 255 255 255 255 255 255 255 255 255 255 b31 % 57896044618658097711785492504343953926634992332820282019728792003956564819968 % prm) 20), .int .u8 (byt (kv b0 255 255 255 255 255 255 255 255 255 255 255 255 255 255 255 255 255 255 255 255 255 255 255 255 255 255 255 255 255 255 b31 % 57896044618658097711785492504343953926634992332820282019728792003956564819968 % prm) 21), .int .u8 (byt (kv b0 255 255 255 255 255 255 255 255 255 255 255 255 255 255 255 255 255 255 255 255 255 255 255 255 255 255 255 255 255 255 b31 % 57896044618658097711785492504343953926634992332820282019728792003956564819968 % prm) 22), .int .u8 (byt (kv b0 255 255 255 255 255 255 255 255 255 255 255 255 255 255 255 255 255 255 255 255 255 255 255 255 255 255 255 255 255 255 b31 % 57896044618658097711785492504343953926634992332820282019728792003956564819968 % prm) 23), .int .u8 (byt (kv b0 255 255 255 255 255 255 255 255 255 255 255 255 255 255 255 255 255 255 255 255 255 255 255 255 255 255 255 255 255 255 b31 % 57896044618658097711785492504343953926634992332820282019728792003956564819968 % prm) 24), .int .u8 (byt (kv b0 255 255 255 255 255 255 255 255 255 255 255 255 255 255 255 255 255 255 255 255 255 255 255 255 255 255 255 255 255 255 b31 % 57896044618658097711785492504343953926634992332820282019728792003956564819968 % prm) 25), .int .u8 (byt (kv b0 255 255 255 255 255 255 255 255 255 255 255 255 255 255 255 255 255 255 255 255 255 255 255 255 255 255 255 255 255 255 b31 % 57896044618658097711785492504343953926634992332820282019728792003956564819968 % prm) 26), .int .u8 (byt (kv b0 255 255 255 255 255 255 255 255 255 255 255 255 255 255 255 255 255 255 255 255 255 255 255 255 255 255 255 255 255 255 b31 % 57896044618658097711785492504343953926634992332820282019728792003956564819968 % prm) 27), .int .u8 (byt (kv b0 255 255 255 255 255 255 255 255 255 255 255 255 255 255 255 255 255 255 255 255 255 255 255 255 255 255 255 255 255 255 b31 % 57896044618658097711785492504343953926634992332820282019728792003956564819968 % prm) 28), .int .u8 (byt (kv b0 255 255 255 255 255 255 255 255 255 255 255 255 255 255 255 255 255 255 255 255 255 255 255 255 255 255 255 255 255 255 b31 % 57896044618658097711785492504343953926634992332820282019728792003956564819968 % prm) 29), .int .u8 (byt (kv b0 255 255 255 255 255 255 255 255 255 255 255 255 255 255 255 255 255 255 255 255 255 255 255 255 255 255 255 255 255 255 b31 % 57896044618658097711785492504343953926634992332820282019728792003956564819968 % prm) 30), .int .u8 (byt (kv b0 255 255 255 255 255 255 255 255 255 255 255 255 255 255 255 255 255 255 255 255 255 255 255 255 255 255 255 255 255 255 b31 % 57896044618658097711785492504343953926634992332820282019728792003956564819968 % prm) 31)] := by
  have e1 : kv b0 255 255 255 255 255 255 255 255 255 255 255 255 255 255 255 255 255 255 255 255 255 255 255 255 255 255 255 255 255 255 b31 % 57896044618658097711785492504343953926634992332820282019728792003956564819968 % prm = b0 - 237 := by
    have e2 : kv b0 255 255 255 255 255 255 255 255 255 255 255 255 255 255 255 255 255 255 255 255 255 255 255 255 255 255 255 255 255 255 b31 = 57896044618658097711785492504343953926634992332820282019728792003956564819949 + (b0 - 237) + 57896044618658097711785492504343953926634992332820282019728792003956564819968 * (b31 / 128) := by simp only [kv, valB]; omega
    unfold prm
    rw [e2]
    omega
  rw [e1]
  have z : ∀ i, 1 ≤ i → byt (b0 - 237) i = 0 := fun i hi => by
    unfold byt
    have hp : (256 : Int) ≤ 256 ^ i := by
      obtain ⟨j, rfl⟩ : ∃ j, i = j + 1 := ⟨i - 1, by omega⟩
      have h1 : (0 : Int) < 256 ^ j := Int.pow_pos (by decide)
      rw [Int.pow_succ]
      omega
    rw [Int.ediv_eq_zero_of_lt (by omega) (by omega)]
    rfl
  have z0 : byt (b0 - 237) 0 = b0 - 237 := by unfold byt; simp; omega
  rw [z0, z 1 (by decide), z 2 (by decide), z 3 (by decide), z 4 (by decide), z 5 (by decide), z 6 (by decide), z 7 (by decide), z 8 (by decide), z 9 (by decide), z 10 (by decide), z 11 (by decide), z 12 (by decide), z 13 (by decide), z 14 (by decide), z 15 (by decide), z 16 (by decide), z 17 (by decide), z 18 (by decide), z 19 (by decide), z 20 (by decide), z 21 (by decide), z 22 (by decide), z 23 (by decide), z 24 (by decide), z 25 (by decide), z 26 (by decide), z 27 (by decide), z 28 (by decide), z 29 (by decide), z 30 (by decide), z 31 (by decide)]

structure Row8 (g : Nat → Int) (D : Array Value) : Prop where
  cell : ∀ i, i < 32 → D[i]? = some (.int .u8 (g i))
theorem Row8.lit (b0 b1 b2 b3 b4 b5 b6 b7 b8 b9 b10 b11 b12 b13 b14 b15 b16 b17 b18 b19 b20 b21 b22 b23 b24 b25 b26 b27 b28 b29 b30 b31 : Int) : Row8 (gl [b0, b1, b2, b3, b4, b5, b6, b7, b8, b9, b10, b11, b12, b13, b14, b15, b16, b17, b18, b19, b20, b21, b22, b23, b24, b25, b26, b27, b28, b29, b30, b31]) #[.int .u8 b0, .int .u8 b1, .int .u8 b2, .int .u8 b3, .int .u8 b4, .int .u8 b5, .int .u8 b6, .int .u8 b7, .int .u8 b8, .int .u8 b9, .int .u8 b10, .int .u8 b11, .int .u8 b12, .int .u8 b13, .int .u8 b14, .int .u8 b15, .int .u8 b16, .int .u8 b17, .int .u8 b18, .int .u8 b19, .int .u8 b20, .int .u8 b21, .int .u8 b22, .int .u8 b23, .int .u8 b24, .int .u8 b25, .int .u8 b26, .int .u8 b27, .int .u8 b28, .int .u8 b29, .int .u8 b30, .int .u8 b31] := by
  refine ⟨fun i hi => ?_⟩
  rcases (by omega : i = 0 ∨ i = 1 ∨ i = 2 ∨ i = 3 ∨ i = 4 ∨ i = 5 ∨ i = 6 ∨ i = 7 ∨ i = 8 ∨ i = 9 ∨ i = 10 ∨ i = 11 ∨ i = 12 ∨ i = 13 ∨ i = 14 ∨ i = 15 ∨ i = 16 ∨ i = 17 ∨ i = 18 ∨ i = 19 ∨ i = 20 ∨ i = 21 ∨ i = 22 ∨ i = 23 ∨ i = 24 ∨ i = 25 ∨ i = 26 ∨ i = 27 ∨ i = 28 ∨ i = 29 ∨ i = 30 ∨ i = 31) with rfl | rfl | rfl | rfl | rfl | rfl | rfl | rfl | rfl | rfl | rfl | rfl | rfl | rfl | rfl | rfl | rfl | rfl | rfl | rfl | rfl | rfl | rfl | rfl | rfl | rfl | rfl | rfl | rfl | rfl | rfl | rfl <;> rfl

set_option maxHeartbeats 2000000 in
theorem low_of (b0 b1 b2 b3 b4 b5 b6 b7 b8 b9 b10 b11 b12 b13 b14 b15 b16 b17 b18 b19 b20 b21 b22 b23 b24 b25 b26 b27 b28 b29 b30 b31 : Int) (lo0 : 0 ≤ b0) (hi0 : b0 < 256) (lo1 : 0 ≤ b1) (hi1 : b1 < 256) (lo2 : 0 ≤ b2) (hi2 : b2 < 256) (lo3 : 0 ≤ b3) (hi3 : b3 < 256) (lo4 : 0 ≤ b4) (hi4 : b4 < 256) (lo5 : 0 ≤ b5) (hi5 : b5 < 256) (lo6 : 0 ≤ b6) (hi6 : b6 < 256) (lo7 : 0 ≤ b7) (hi7 : b7 < 256) (lo8 : 0 ≤ b8) (hi8 : b8 < 256) (lo9 : 0 ≤ b9) (hi9 : b9 < 256) (lo10 : 0 ≤ b10) (hi10 : b10 < 256) (lo11 : 0 ≤ b11) (hi11 : b11 < 256) (lo12 : 0 ≤ b12) (hi12 : b12 < 256) (lo13 : 0 ≤ b13) (hi13 : b13 < 256) (lo14 : 0 ≤ b14) (hi14 : b14 < 256) (lo15 : 0 ≤ b15) (hi15 : b15 < 256) (lo16 : 0 ≤ b16) (hi16 : b16 < 256) (lo17 : 0 ≤ b17) (hi17 : b17 < 256) (lo18 : 0 ≤ b18) (hi18 : b18 < 256) (lo19 : 0 ≤ b19) (hi19 : b19 < 256) (lo20 : 0 ≤ b20) (hi20 : b20 < 256) (lo21 : 0 ≤ b21) (hi21 : b21 < 256) (lo22 : 0 ≤ b22) (hi22 : b22 < 256) (lo23 : 0 ≤ b23) (hi23 : b23 < 256) (lo24 : 0 ≤ b24) (hi24 : b24 < 256) (lo25 : 0 ≤ b25) (hi25 : b25 < 256) (lo26 : 0 ≤ b26) (hi26 : b26 < 256) (lo27 : 0 ≤ b27) (hi27 : b27 < 256) (lo28 : 0 ≤ b28) (hi28 : b28 < 256) (lo29 : 0 ≤ b29) (hi29 : b29 < 256) (lo30 : 0 ≤ b30) (hi30 : b30 < 256) (h : b31 % 128 ≠ 127 ∨ ∃ j, 1 ≤ j ∧ j ≤ 30 ∧ gl [b0, b1, b2, b3, b4, b5, b6, b7, b8, b9, b10, b11, b12, b13, b14, b15, b16, b17, b18, b19, b20, b21, b22, b23, b24, b25, b26, b27, b28, b29, b30, b31 % 128] j ≠ 255) : kv b0 b1 b2 b3 b4 b5 b6 b7 b8 b9 b10 b11 b12 b13 b14 b15 b16 b17 b18 b19 b20 b21 b22 b23 b24 b25 b26 b27 b28 b29 b30 (b31 % 128) < prm := by
  rcases h with h | ⟨j, h1, h2, h3⟩
  · simp only [kv, valB, prm]; omega
  · rcases (by omega : j = 1 ∨ j = 2 ∨ j = 3 ∨ j = 4 ∨ j = 5 ∨ j = 6 ∨ j = 7 ∨ j = 8 ∨ j = 9 ∨ j = 10 ∨ j = 11 ∨ j = 12 ∨ j = 13 ∨ j = 14 ∨ j = 15 ∨ j = 16 ∨ j = 17 ∨ j = 18 ∨ j = 19 ∨ j = 20 ∨ j = 21 ∨ j = 22 ∨ j = 23 ∨ j = 24 ∨ j = 25 ∨ j = 26 ∨ j = 27 ∨ j = 28 ∨ j = 29 ∨ j = 30) with rfl | rfl | rfl | rfl | rfl | rfl | rfl | rfl | rfl | rfl | rfl | rfl | rfl | rfl | rfl | rfl | rfl | rfl | rfl | rfl | rfl | rfl | rfl | rfl | rfl | rfl | rfl | rfl | rfl | rfl
    all_goals
      simp only [gl, List.getD_cons_succ, List.getD_cons_zero] at h3
      simp only [kv, valB, prm]
      omega

end Go.Proofs.YtnohfbpmckhbbaaDoor


namespace Go.Proofs.YtnohfbpmckhbbaaDoor
set_option maxRecDepth 100000
open Go.RowKit Go.Sort
attribute [local go_sem] setCell_drewN alloc_drewN


theorem small_one (w : World) : Calls Tryd.prog 12 #[.int .u64 1] w fun e w' => e = .returned (.agg #[.int .u64 1, .int .u64 0, .int .u64 0, .int .u64 0, .int .u64 0]) ∧ Below w.heap.size w w' := by
  have h := small_any 1 (by decide) (by decide) w
  have e1 : (1 : Int) % 2251799813685248 = 1 := by decide
  have e2 : (1 : Int) / 2251799813685248 = 0 := by decide
  rw [e1, e2] at h
  exact h
theorem one_mod : v5 1 0 0 0 0 % prm = 1 := by decide
theorem none_mod : v5 0 0 0 0 0 % prm = 0 := by decide

end Go.Proofs.YtnohfbpmckhbbaaDoor

