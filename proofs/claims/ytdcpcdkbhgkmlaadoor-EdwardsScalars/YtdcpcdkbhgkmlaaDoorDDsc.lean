import Derived.Test.YtdcpcdkbhgkmlaaDoorProg
import Derived.WalkKit
import Derived.WalkSpells
import Derived.WalkLawsBesides
import Derived.Lib.QuietBelow
import Derived.BigQuiet
import Derived.Test.YtdcpcdkbhgkmlaaDoorDOpen
import Derived.Test.YtdcpcdkbhgkmlaaDoorDDsb
import Derived.Test.YtdcpcdkbhgkmlaaDoorDEa
import Derived.Test.YtdcpcdkbhgkmlaaDoorDGb
namespace Go.Proofs.YtdcpcdkbhgkmlaaDoor
set_option maxRecDepth 100000
open Go.RowKit Go.Sort
attribute [local go_sem] setCell_drewN alloc_drewN
set_option maxRecDepth 100000 in
set_option maxHeartbeats 8000000 in
theorem wminus_walk (a0 a1 a2 a3 b0 b1 b2 b3 : Int) (ha0 : 0 ≤ a0 ∧ a0 < 18446744073709551616) (ha1 : 0 ≤ a1 ∧ a1 < 18446744073709551616) (ha2 : 0 ≤ a2 ∧ a2 < 18446744073709551616) (ha3 : 0 ≤ a3 ∧ a3 < 18446744073709551616) (hb0 : 0 ≤ b0 ∧ b0 < 18446744073709551616) (hb1 : 0 ≤ b1 ∧ b1 < 18446744073709551616) (hb2 : 0 ≤ b2 ∧ b2 < 18446744073709551616) (hb3 : 0 ≤ b3 ∧ b3 < 18446744073709551616) (w : World) :
 Calls Tryd.prog 53 #[.agg #[.int .u64 a0, .int .u64 a1, .int .u64 a2, .int .u64 a3], .agg #[.int .u64 b0, .int .u64 b1, .int .u64 b2, .int .u64 b3]] w fun e w' => (∃ s0 s1 s2 s3 c1 c2 c3 c4 : Int, s0 - 18446744073709551616 * c1 = a0 - b0 ∧ s1 - 18446744073709551616 * c2 = a1 - b1 - c1 ∧ s2 - 18446744073709551616 * c3 = a2 - b2 - c2 ∧ s3 - 18446744073709551616 * c4 = a3 - b3 - c3 ∧ (0 ≤ s0 ∧ s0 < 18446744073709551616) ∧ (0 ≤ s1 ∧ s1 < 18446744073709551616) ∧ (0 ≤ s2 ∧ s2 < 18446744073709551616) ∧ (0 ≤ s3 ∧ s3 < 18446744073709551616) ∧ (0 ≤ c4 ∧ c4 ≤ 1) ∧ e = .returned (.tuple #[.agg #[.int .u64 s0, .int .u64 s1, .int .u64 s2, .int .u64 s3], .int .u64 c4])) ∧ Below w.heap.size w w' := by
 obtain ⟨s0, c1, qs0, qc1, e0, f0⟩ := sub64_call a0 b0 0 ha0.1 hb0.1 ha0.2 hb0.2 (by decide) (by decide)
 obtain ⟨s1, c2, qs1, qc2, e1, f1⟩ := sub64_call a1 b1 c1 ha1.1 hb1.1 ha1.2 hb1.2 qc1.1 qc1.2
 obtain ⟨s2, c3, qs2, qc3, e2, f2⟩ := sub64_call a2 b2 c2 ha2.1 hb2.1 ha2.2 hb2.2 qc2.1 qc2.2
 obtain ⟨s3, c4, qs3, qc4, e3, f3⟩ := sub64_call a3 b3 c3 ha3.1 hb3.1 ha3.2 hb3.2 qc3.1 qc3.2
 have ra := hp3_0 w (.cells #[.int .u64 a0, .int .u64 a1, .int .u64 a2, .int .u64 a3] 51) (.cells #[.int .u64 b0, .int .u64 b1, .int .u64 b2, .int .u64 b3] 51) (.cells #[.int .u64 0, .int .u64 0, .int .u64 0, .int .u64 0] 51)
 have rb := hp3_1 w (.cells #[.int .u64 a0, .int .u64 a1, .int .u64 a2, .int .u64 a3] 51) (.cells #[.int .u64 b0, .int .u64 b1, .int .u64 b2, .int .u64 b3] 51) (.cells #[.int .u64 0, .int .u64 0, .int .u64 0, .int .u64 0] 51)
 have rc := hp3_2 w (.cells #[.int .u64 a0, .int .u64 a1, .int .u64 a2, .int .u64 a3] 51) (.cells #[.int .u64 b0, .int .u64 b1, .int .u64 b2, .int .u64 b3] 51) (.cells #[.int .u64 0, .int .u64 0, .int .u64 0, .int .u64 0] 51)
 have hw : Below w.heap.size w (((w.alloc (.cells #[.int .u64 a0, .int .u64 a1, .int .u64 a2, .int .u64 a3] 51)).alloc (.cells #[.int .u64 b0, .int .u64 b1, .int .u64 b2, .int .u64 b3] 51)).alloc (.cells #[.int .u64 0, .int .u64 0, .int .u64 0, .int .u64 0] 51)) := (((Below.refl _ _).alloc (Nat.le_refl _) _).alloc (by simp) _).alloc (by simp; omega) _
 go_enter Tryd.func53, Tryd.ntmps53
 go_wp2_with (fail)
 generalize (((w.alloc (.cells #[.int .u64 a0, .int .u64 a1, .int .u64 a2, .int .u64 a3] 51)).alloc (.cells #[.int .u64 b0, .int .u64 b1, .int .u64 b2, .int .u64 b3] 51)).alloc (.cells #[.int .u64 0, .int .u64 0, .int .u64 0, .int .u64 0] 51)) = w0 at *
 go_loopw [6, 8] (fun u v wr => ∃ k : Nat, k ≤ 4 ∧ v = .int .i64 k ∧ ((k = 0 ∧ u = .int .u64 0 ∧ wr.heap[w.heap.size]? = some (.cells #[.int .u64 a0, .int .u64 a1, .int .u64 a2, .int .u64 a3] 51 (0, 0))) ∨ (k = 1 ∧ u = .int .u64 c1 ∧ wr.heap[w.heap.size]? = some (.cells #[.int .u64 s0, .int .u64 a1, .int .u64 a2, .int .u64 a3] 51 (0, 0))) ∨ (k = 2 ∧ u = .int .u64 c2 ∧ wr.heap[w.heap.size]? = some (.cells #[.int .u64 s0, .int .u64 s1, .int .u64 a2, .int .u64 a3] 51 (0, 0))) ∨ (k = 3 ∧ u = .int .u64 c3 ∧ wr.heap[w.heap.size]? = some (.cells #[.int .u64 s0, .int .u64 s1, .int .u64 s2, .int .u64 a3] 51 (0, 0))) ∨ (k = 4 ∧ u = .int .u64 c4 ∧ wr.heap[w.heap.size]? = some (.cells #[.int .u64 s0, .int .u64 s1, .int .u64 s2, .int .u64 s3] 51 (0, 0)))) ∧ wr.heap[w.heap.size + 1]? = some (.cells #[.int .u64 b0, .int .u64 b1, .int .u64 b2, .int .u64 b3] 51 (0, 0)) ∧ wr.heap[w.heap.size + 1 + 1]? = some (.cells #[.int .u64 0, .int .u64 0, .int .u64 0, .int .u64 0] 51 (0, 0)) ∧ Below w.heap.size w wr) (fun _ v _ => 4 - (intOf v).toNat)
 case atStart => exact ⟨0, by omega, rfl, .inl ⟨rfl, rfl, ra⟩, rb, rc, hw⟩
 case round =>
  clear ra rb rc hw
  obtain ⟨k, hk, rfl, hx, rb, rc, hw⟩ := hrel
  rcases hx with ⟨rfl, rfl, ra⟩ | ⟨rfl, rfl, ra⟩ | ⟨rfl, rfl, ra⟩ | ⟨rfl, rfl, ra⟩ | ⟨rfl, rfl, ra⟩
  ·have hd : decide ((0 : Int) < 4) = true := by decide
   go_wp2_with (fail)
   refine wp_region_noPanic ?_
   refine wp_region_held (S := fun _ => True) (by kernel_rfl) ?_
   change wpAnyH _ _ _ _ _ _ _ _ (World.drew _)
   have hbd : Below wr.heap.size wr wr.drew := below_drN (Below.refl _ _) 1
   replace ra := keep hbd ra
   replace rb := keep hbd rb
   replace rc := keep hbd rc
   replace hw := Below.after hw hbd
   clear hbd
   generalize wr.drew = wd_ at *
   have ca : wd_.cell? ⟨w.heap.size, 0, none⟩ = some (.int .u64 a0) := cell_of_row wd_ (w.heap.size) 0 _ _ _ ra
   have cb : wd_.cell? ⟨w.heap.size + 1, 0, none⟩ = some (.int .u64 b0) := cell_of_row wd_ (w.heap.size + 1) 0 _ _ _ rb
   refine wpAnyH_take (i := 0) (v := ?v1) rfl (by kernel_rfl) (by kernel_rfl) (by kernel_rfl) (fun _ _ _ h => h) (Or.inl ⟨by rfl, ?y1⟩) trivial ?r1
   case y1 =>
    intro w_ hS_
    go_simp
    try with_reducible rfl
   simp only [Act.put, ZPa, ZPc, ZPd, ZPe, ZPf]
   refine wpAnyH_take (i := 1) (v := ?v2) rfl (by kernel_rfl) (by kernel_rfl) (by kernel_rfl) (fun _ _ _ h => h) (Or.inl ⟨by rfl, ?y2⟩) trivial ?r2
   case y2 =>
    intro w_ hS_
    go_simp
    try with_reducible rfl
   simp only [Act.put, ZPa, ZPb, ZPc, ZPd, ZPe, ZPf]
   refine wpAnyH_take (i := 2) (v := ?v3) rfl (by kernel_rfl) (by kernel_rfl) (by kernel_rfl) (fun _ _ _ h => h) (Or.inl ⟨by rfl, ?y3⟩) trivial ?r3
   case y3 =>
    intro w_ hS_
    go_simp
    try with_reducible rfl
   simp only [Act.put, ZPa, ZPb, ZPc, ZPd, ZPe, ZPf]
   refine wpAnyH_take (i := 4) (v := ?v4) rfl (by kernel_rfl) (by kernel_rfl) (by kernel_rfl) (fun _ _ _ h => h) (Or.inl ⟨by rfl, ?y4⟩) trivial ?r4
   case y4 =>
    intro w_ hS_
    go_simp
    try with_reducible rfl
   simp only [Act.put, ZPa, ZPb, ZPc, ZPd, ZPe, ZPf]
   refine wpAnyH_take (i := 5) (v := ?v5) rfl (by kernel_rfl) (by kernel_rfl) (by kernel_rfl) (fun _ _ _ h => h) (Or.inl ⟨by rfl, ?y5⟩) trivial ?r5
   case y5 =>
    intro w_ hS_
    go_simp
    try with_reducible rfl
   simp only [Act.put, ZPa, ZPb, ZPc, ZPd, ZPe, ZPf]
   refine wpAnyH_take (i := 7) (v := ?v6) rfl (by kernel_rfl) (by kernel_rfl) (by kernel_rfl) (fun _ _ _ h => h) (Or.inl ⟨by rfl, ?y6⟩) trivial ?r6
   case y6 =>
    intro w_ hS_
    go_simp
    try with_reducible rfl
   simp only [Act.put, ZPa, ZPb, ZPc, ZPd, ZPe, ZPf]
   refine eH_two (j := 3) (k := 6) (fuel := 8) (by kernel_rfl) rfl rfl (by kernel_rfl) (by kernel_rfl) (fun K_ hK_ => ?_) (fun K_ hK_ => ?_)
   ·skip
    refine wp_load_c 25 _ rfl (w.heap.size) 0 rfl _ ca Tryd.underlying25 ?_
    refine hK_ _ _ trivial ?_
    simp only [Act.put, ZPa, ZPb, ZPc, ZPd, ZPe, ZPf]
    clear hK_
    refine eH_one (k := 6) (fuel := 7) (by kernel_rfl) rfl (by kernel_rfl) (fun K_ hK_ => ?_)
    refine wp_load_c 25 _ rfl (w.heap.size + 1) 0 rfl _ cb Tryd.underlying25 ?_
    refine hK_ _ _ trivial ?_
    simp only [Act.put, ZPa, ZPb, ZPc, ZPd, ZPe, ZPf]
    clear hK_
    refine wpAnyH_take (i := 8) (v := ?v7) rfl (by kernel_rfl) (by kernel_rfl) (by kernel_rfl) (fun _ _ _ h => h) (Or.inl ⟨by rfl, ?y7⟩) trivial ?r7
    case y7 =>
     intro w_ hS_
     go_simp
     try with_reducible rfl
    simp only [Act.put, ZPa, ZPb, ZPc, ZPd, ZPe, ZPf]
    refine wpAnyH_take (i := 9) (v := ?v8) rfl (by kernel_rfl) (by kernel_rfl) (by kernel_rfl) (fun _ _ _ h => h) (Or.inl ⟨by rfl, ?y8⟩) trivial ?r8
    case y8 =>
     intro w_ hS_
     go_simp
     try with_reducible rfl
    simp only [Act.put, ZPa, ZPb, ZPc, ZPd, ZPe, ZPf]
    refine wpAnyH_take (i := 10) (v := ?v9) rfl (by kernel_rfl) (by kernel_rfl) (by kernel_rfl) (fun _ _ _ h => h) (Or.inl ⟨by rfl, ?y9⟩) trivial ?r9
    case y9 =>
     intro w_ hS_
     go_simp
     try with_reducible rfl
    simp only [Act.put, ZPa, ZPb, ZPc, ZPd, ZPe, ZPf]
    refine wpAnyH_take (i := 11) (v := ?v10) rfl (by kernel_rfl) (by kernel_rfl) (by kernel_rfl) (fun _ _ _ h => h) (Or.inl ⟨by rfl, ?y10⟩) trivial ?r10
    case y10 =>
     intro w_ hS_
     go_simp
     try with_reducible rfl
    simp only [Act.put, ZPa, ZPb, ZPc, ZPd, ZPe, ZPf]
    refine wpAnyH_take (i := 12) (v := ?v11) rfl (by kernel_rfl) (by kernel_rfl) (by kernel_rfl) (fun _ _ _ h => h) (Or.inl ⟨by rfl, ?y11⟩) trivial ?r11
    case y11 =>
     intro w_ hS_
     go_simp
     try with_reducible rfl
    simp only [Act.put, ZPa, ZPb, ZPc, ZPd, ZPe, ZPf]
    refine eH_one (k := 13) (fuel := 1) (by kernel_rfl) rfl (by kernel_rfl) (fun K_ hK_ => ?_)
    refine wp_store_c 25 _ _ rfl (w.heap.size) 0 rfl (.int .u64 s0) rfl 51 _ ra (by show 0 < 4; decide) infoW rfl ?_
    replace rb := (setRow_other wd_ (w.heap.size) (w.heap.size + 1) #[.int .u64 s0, .int .u64 a1, .int .u64 a2, .int .u64 a3] (by omega)).trans rb
    replace rc := (setRow_other wd_ (w.heap.size) (w.heap.size + 1 + 1) #[.int .u64 s0, .int .u64 a1, .int .u64 a2, .int .u64 a3] (by omega)).trans rc
    replace ra := setRow_heap wd_ (w.heap.size) _ #[.int .u64 s0, .int .u64 a1, .int .u64 a2, .int .u64 a3] _ _ ra
    replace hw := below_setRow hw (Nat.le_refl _) #[.int .u64 s0, .int .u64 a1, .int .u64 a2, .int .u64 a3]
    refine hK_ _ _ trivial ?_
    simp only [Act.put]
    clear hK_
    clear ca cb
    change wpAnyH _ _ _ _ _ _ _ _ (wd_.setRow (w.heap.size) #[.int .u64 s0, .int .u64 a1, .int .u64 a2, .int .u64 a3])
    generalize wd_.setRow (w.heap.size) #[.int .u64 s0, .int .u64 a1, .int .u64 a2, .int .u64 a3] = we_ at *
    refine wpAnyH_take (i := 14) (v := ?v12) rfl (by kernel_rfl) (by kernel_rfl) (by kernel_rfl) (fun _ _ _ h => h) (Or.inl ⟨by rfl, ?y12⟩) trivial ?r12
    case y12 =>
     intro w_ hS_
     go_simp
     try with_reducible rfl
    simp only [Act.put, ZPa, ZPb, ZPc, ZPd, ZPe, ZPf]
    refine wpAnyH_done (by kernel_rfl) ?_ _
    refine NoPanic.normal ?_
    go_wp2_with (fail)
    go_roundw
    case rel => exact ⟨1, by omega, by go_num, .inr (.inl ⟨rfl, rfl, ra⟩), rb, rc, hw⟩
    case measure => simp [intOf]
   ·skip
    refine wp_load_c 25 _ rfl (w.heap.size + 1) 0 rfl _ cb Tryd.underlying25 ?_
    refine hK_ _ _ trivial ?_
    simp only [Act.put, ZPa, ZPb, ZPc, ZPd, ZPe, ZPf]
    clear hK_
    refine eH_one (k := 3) (fuel := 7) (by kernel_rfl) rfl (by kernel_rfl) (fun K_ hK_ => ?_)
    refine wp_load_c 25 _ rfl (w.heap.size) 0 rfl _ ca Tryd.underlying25 ?_
    refine hK_ _ _ trivial ?_
    simp only [Act.put, ZPa, ZPb, ZPc, ZPd, ZPe, ZPf]
    clear hK_
    refine wpAnyH_take (i := 8) (v := ?v13) rfl (by kernel_rfl) (by kernel_rfl) (by kernel_rfl) (fun _ _ _ h => h) (Or.inl ⟨by rfl, ?y13⟩) trivial ?r13
    case y13 =>
     intro w_ hS_
     go_simp
     try with_reducible rfl
    simp only [Act.put, ZPa, ZPb, ZPc, ZPd, ZPe, ZPf]
    refine wpAnyH_take (i := 9) (v := ?v14) rfl (by kernel_rfl) (by kernel_rfl) (by kernel_rfl) (fun _ _ _ h => h) (Or.inl ⟨by rfl, ?y14⟩) trivial ?r14
    case y14 =>
     intro w_ hS_
     go_simp
     try with_reducible rfl
    simp only [Act.put, ZPa, ZPb, ZPc, ZPd, ZPe, ZPf]
    refine wpAnyH_take (i := 10) (v := ?v15) rfl (by kernel_rfl) (by kernel_rfl) (by kernel_rfl) (fun _ _ _ h => h) (Or.inl ⟨by rfl, ?y15⟩) trivial ?r15
    case y15 =>
     intro w_ hS_
     go_simp
     try with_reducible rfl
    simp only [Act.put, ZPa, ZPb, ZPc, ZPd, ZPe, ZPf]
    refine wpAnyH_take (i := 11) (v := ?v16) rfl (by kernel_rfl) (by kernel_rfl) (by kernel_rfl) (fun _ _ _ h => h) (Or.inl ⟨by rfl, ?y16⟩) trivial ?r16
    case y16 =>
     intro w_ hS_
     go_simp
     try with_reducible rfl
    simp only [Act.put, ZPa, ZPb, ZPc, ZPd, ZPe, ZPf]
    refine wpAnyH_take (i := 12) (v := ?v17) rfl (by kernel_rfl) (by kernel_rfl) (by kernel_rfl) (fun _ _ _ h => h) (Or.inl ⟨by rfl, ?y17⟩) trivial ?r17
    case y17 =>
     intro w_ hS_
     go_simp
     try with_reducible rfl
    simp only [Act.put, ZPa, ZPb, ZPc, ZPd, ZPe, ZPf]
    refine eH_one (k := 13) (fuel := 1) (by kernel_rfl) rfl (by kernel_rfl) (fun K_ hK_ => ?_)
    refine wp_store_c 25 _ _ rfl (w.heap.size) 0 rfl (.int .u64 s0) rfl 51 _ ra (by show 0 < 4; decide) infoW rfl ?_
    replace rb := (setRow_other wd_ (w.heap.size) (w.heap.size + 1) #[.int .u64 s0, .int .u64 a1, .int .u64 a2, .int .u64 a3] (by omega)).trans rb
    replace rc := (setRow_other wd_ (w.heap.size) (w.heap.size + 1 + 1) #[.int .u64 s0, .int .u64 a1, .int .u64 a2, .int .u64 a3] (by omega)).trans rc
    replace ra := setRow_heap wd_ (w.heap.size) _ #[.int .u64 s0, .int .u64 a1, .int .u64 a2, .int .u64 a3] _ _ ra
    replace hw := below_setRow hw (Nat.le_refl _) #[.int .u64 s0, .int .u64 a1, .int .u64 a2, .int .u64 a3]
    refine hK_ _ _ trivial ?_
    simp only [Act.put]
    clear hK_
    clear ca cb
    change wpAnyH _ _ _ _ _ _ _ _ (wd_.setRow (w.heap.size) #[.int .u64 s0, .int .u64 a1, .int .u64 a2, .int .u64 a3])
    generalize wd_.setRow (w.heap.size) #[.int .u64 s0, .int .u64 a1, .int .u64 a2, .int .u64 a3] = we_ at *
    refine wpAnyH_take (i := 14) (v := ?v18) rfl (by kernel_rfl) (by kernel_rfl) (by kernel_rfl) (fun _ _ _ h => h) (Or.inl ⟨by rfl, ?y18⟩) trivial ?r18
    case y18 =>
     intro w_ hS_
     go_simp
     try with_reducible rfl
    simp only [Act.put, ZPa, ZPb, ZPc, ZPd, ZPe, ZPf]
    refine wpAnyH_done (by kernel_rfl) ?_ _
    refine NoPanic.normal ?_
    go_wp2_with (fail)
    go_roundw
    case rel => exact ⟨1, by omega, by go_num, .inr (.inl ⟨rfl, rfl, ra⟩), rb, rc, hw⟩
    case measure => simp [intOf]
  ·have hd : decide ((1 : Int) < 4) = true := by decide
   go_wp2_with (fail)
   refine wp_region_noPanic ?_
   refine wp_region_held (S := fun _ => True) (by kernel_rfl) ?_
   change wpAnyH _ _ _ _ _ _ _ _ (World.drew _)
   have hbd : Below wr.heap.size wr wr.drew := below_drN (Below.refl _ _) 1
   replace ra := keep hbd ra
   replace rb := keep hbd rb
   replace rc := keep hbd rc
   replace hw := Below.after hw hbd
   clear hbd
   generalize wr.drew = wd_ at *
   have ca : wd_.cell? ⟨w.heap.size, 1, none⟩ = some (.int .u64 a1) := cell_of_row wd_ (w.heap.size) 1 _ _ _ ra
   have cb : wd_.cell? ⟨w.heap.size + 1, 1, none⟩ = some (.int .u64 b1) := cell_of_row wd_ (w.heap.size + 1) 1 _ _ _ rb
   refine wpAnyH_take (i := 0) (v := ?v19) rfl (by kernel_rfl) (by kernel_rfl) (by kernel_rfl) (fun _ _ _ h => h) (Or.inl ⟨by rfl, ?y19⟩) trivial ?r19
   case y19 =>
    intro w_ hS_
    go_simp
    try with_reducible rfl
   simp only [Act.put, ZPa, ZPc, ZPd, ZPe, ZPf]
   refine wpAnyH_take (i := 1) (v := ?v20) rfl (by kernel_rfl) (by kernel_rfl) (by kernel_rfl) (fun _ _ _ h => h) (Or.inl ⟨by rfl, ?y20⟩) trivial ?r20
   case y20 =>
    intro w_ hS_
    go_simp
    try with_reducible rfl
   simp only [Act.put, ZPa, ZPb, ZPc, ZPd, ZPe, ZPf]
   refine wpAnyH_take (i := 2) (v := ?v21) rfl (by kernel_rfl) (by kernel_rfl) (by kernel_rfl) (fun _ _ _ h => h) (Or.inl ⟨by rfl, ?y21⟩) trivial ?r21
   case y21 =>
    intro w_ hS_
    go_simp
    try with_reducible rfl
   simp only [Act.put, ZPa, ZPb, ZPc, ZPd, ZPe, ZPf]
   refine wpAnyH_take (i := 4) (v := ?v22) rfl (by kernel_rfl) (by kernel_rfl) (by kernel_rfl) (fun _ _ _ h => h) (Or.inl ⟨by rfl, ?y22⟩) trivial ?r22
   case y22 =>
    intro w_ hS_
    go_simp
    try with_reducible rfl
   simp only [Act.put, ZPa, ZPb, ZPc, ZPd, ZPe, ZPf]
   refine wpAnyH_take (i := 5) (v := ?v23) rfl (by kernel_rfl) (by kernel_rfl) (by kernel_rfl) (fun _ _ _ h => h) (Or.inl ⟨by rfl, ?y23⟩) trivial ?r23
   case y23 =>
    intro w_ hS_
    go_simp
    try with_reducible rfl
   simp only [Act.put, ZPa, ZPb, ZPc, ZPd, ZPe, ZPf]
   refine wpAnyH_take (i := 7) (v := ?v24) rfl (by kernel_rfl) (by kernel_rfl) (by kernel_rfl) (fun _ _ _ h => h) (Or.inl ⟨by rfl, ?y24⟩) trivial ?r24
   case y24 =>
    intro w_ hS_
    go_simp
    try with_reducible rfl
   simp only [Act.put, ZPa, ZPb, ZPc, ZPd, ZPe, ZPf]
   refine eH_two (j := 3) (k := 6) (fuel := 8) (by kernel_rfl) rfl rfl (by kernel_rfl) (by kernel_rfl) (fun K_ hK_ => ?_) (fun K_ hK_ => ?_)
   ·skip
    refine wp_load_c 25 _ rfl (w.heap.size) 1 rfl _ ca Tryd.underlying25 ?_
    refine hK_ _ _ trivial ?_
    simp only [Act.put, ZPa, ZPb, ZPc, ZPd, ZPe, ZPf]
    clear hK_
    refine eH_one (k := 6) (fuel := 7) (by kernel_rfl) rfl (by kernel_rfl) (fun K_ hK_ => ?_)
    refine wp_load_c 25 _ rfl (w.heap.size + 1) 1 rfl _ cb Tryd.underlying25 ?_
    refine hK_ _ _ trivial ?_
    simp only [Act.put, ZPa, ZPb, ZPc, ZPd, ZPe, ZPf]
    clear hK_
    refine wpAnyH_take (i := 8) (v := ?v25) rfl (by kernel_rfl) (by kernel_rfl) (by kernel_rfl) (fun _ _ _ h => h) (Or.inl ⟨by rfl, ?y25⟩) trivial ?r25
    case y25 =>
     intro w_ hS_
     go_simp
     try with_reducible rfl
    simp only [Act.put, ZPa, ZPb, ZPc, ZPd, ZPe, ZPf]
    refine wpAnyH_take (i := 9) (v := ?v26) rfl (by kernel_rfl) (by kernel_rfl) (by kernel_rfl) (fun _ _ _ h => h) (Or.inl ⟨by rfl, ?y26⟩) trivial ?r26
    case y26 =>
     intro w_ hS_
     go_simp
     try with_reducible rfl
    simp only [Act.put, ZPa, ZPb, ZPc, ZPd, ZPe, ZPf]
    refine wpAnyH_take (i := 10) (v := ?v27) rfl (by kernel_rfl) (by kernel_rfl) (by kernel_rfl) (fun _ _ _ h => h) (Or.inl ⟨by rfl, ?y27⟩) trivial ?r27
    case y27 =>
     intro w_ hS_
     go_simp
     try with_reducible rfl
    simp only [Act.put, ZPa, ZPb, ZPc, ZPd, ZPe, ZPf]
    refine wpAnyH_take (i := 11) (v := ?v28) rfl (by kernel_rfl) (by kernel_rfl) (by kernel_rfl) (fun _ _ _ h => h) (Or.inl ⟨by rfl, ?y28⟩) trivial ?r28
    case y28 =>
     intro w_ hS_
     go_simp
     try with_reducible rfl
    simp only [Act.put, ZPa, ZPb, ZPc, ZPd, ZPe, ZPf]
    refine wpAnyH_take (i := 12) (v := ?v29) rfl (by kernel_rfl) (by kernel_rfl) (by kernel_rfl) (fun _ _ _ h => h) (Or.inl ⟨by rfl, ?y29⟩) trivial ?r29
    case y29 =>
     intro w_ hS_
     go_simp
     try with_reducible rfl
    simp only [Act.put, ZPa, ZPb, ZPc, ZPd, ZPe, ZPf]
    refine eH_one (k := 13) (fuel := 1) (by kernel_rfl) rfl (by kernel_rfl) (fun K_ hK_ => ?_)
    refine wp_store_c 25 _ _ rfl (w.heap.size) 1 rfl (.int .u64 s1) rfl 51 _ ra (by show 1 < 4; decide) infoW rfl ?_
    replace rb := (setRow_other wd_ (w.heap.size) (w.heap.size + 1) #[.int .u64 s0, .int .u64 s1, .int .u64 a2, .int .u64 a3] (by omega)).trans rb
    replace rc := (setRow_other wd_ (w.heap.size) (w.heap.size + 1 + 1) #[.int .u64 s0, .int .u64 s1, .int .u64 a2, .int .u64 a3] (by omega)).trans rc
    replace ra := setRow_heap wd_ (w.heap.size) _ #[.int .u64 s0, .int .u64 s1, .int .u64 a2, .int .u64 a3] _ _ ra
    replace hw := below_setRow hw (Nat.le_refl _) #[.int .u64 s0, .int .u64 s1, .int .u64 a2, .int .u64 a3]
    refine hK_ _ _ trivial ?_
    simp only [Act.put]
    clear hK_
    clear ca cb
    change wpAnyH _ _ _ _ _ _ _ _ (wd_.setRow (w.heap.size) #[.int .u64 s0, .int .u64 s1, .int .u64 a2, .int .u64 a3])
    generalize wd_.setRow (w.heap.size) #[.int .u64 s0, .int .u64 s1, .int .u64 a2, .int .u64 a3] = we_ at *
    refine wpAnyH_take (i := 14) (v := ?v30) rfl (by kernel_rfl) (by kernel_rfl) (by kernel_rfl) (fun _ _ _ h => h) (Or.inl ⟨by rfl, ?y30⟩) trivial ?r30
    case y30 =>
     intro w_ hS_
     go_simp
     try with_reducible rfl
    simp only [Act.put, ZPa, ZPb, ZPc, ZPd, ZPe, ZPf]
    refine wpAnyH_done (by kernel_rfl) ?_ _
    refine NoPanic.normal ?_
    go_wp2_with (fail)
    go_roundw
    case rel => exact ⟨2, by omega, by go_num, .inr (.inr (.inl ⟨rfl, rfl, ra⟩)), rb, rc, hw⟩
    case measure => simp [intOf]
   ·skip
    refine wp_load_c 25 _ rfl (w.heap.size + 1) 1 rfl _ cb Tryd.underlying25 ?_
    refine hK_ _ _ trivial ?_
    simp only [Act.put, ZPa, ZPb, ZPc, ZPd, ZPe, ZPf]
    clear hK_
    refine eH_one (k := 3) (fuel := 7) (by kernel_rfl) rfl (by kernel_rfl) (fun K_ hK_ => ?_)
    refine wp_load_c 25 _ rfl (w.heap.size) 1 rfl _ ca Tryd.underlying25 ?_
    refine hK_ _ _ trivial ?_
    simp only [Act.put, ZPa, ZPb, ZPc, ZPd, ZPe, ZPf]
    clear hK_
    refine wpAnyH_take (i := 8) (v := ?v31) rfl (by kernel_rfl) (by kernel_rfl) (by kernel_rfl) (fun _ _ _ h => h) (Or.inl ⟨by rfl, ?y31⟩) trivial ?r31
    case y31 =>
     intro w_ hS_
     go_simp
     try with_reducible rfl
    simp only [Act.put, ZPa, ZPb, ZPc, ZPd, ZPe, ZPf]
    refine wpAnyH_take (i := 9) (v := ?v32) rfl (by kernel_rfl) (by kernel_rfl) (by kernel_rfl) (fun _ _ _ h => h) (Or.inl ⟨by rfl, ?y32⟩) trivial ?r32
    case y32 =>
     intro w_ hS_
     go_simp
     try with_reducible rfl
    simp only [Act.put, ZPa, ZPb, ZPc, ZPd, ZPe, ZPf]
    refine wpAnyH_take (i := 10) (v := ?v33) rfl (by kernel_rfl) (by kernel_rfl) (by kernel_rfl) (fun _ _ _ h => h) (Or.inl ⟨by rfl, ?y33⟩) trivial ?r33
    case y33 =>
     intro w_ hS_
     go_simp
     try with_reducible rfl
    simp only [Act.put, ZPa, ZPb, ZPc, ZPd, ZPe, ZPf]
    refine wpAnyH_take (i := 11) (v := ?v34) rfl (by kernel_rfl) (by kernel_rfl) (by kernel_rfl) (fun _ _ _ h => h) (Or.inl ⟨by rfl, ?y34⟩) trivial ?r34
    case y34 =>
     intro w_ hS_
     go_simp
     try with_reducible rfl
    simp only [Act.put, ZPa, ZPb, ZPc, ZPd, ZPe, ZPf]
    refine wpAnyH_take (i := 12) (v := ?v35) rfl (by kernel_rfl) (by kernel_rfl) (by kernel_rfl) (fun _ _ _ h => h) (Or.inl ⟨by rfl, ?y35⟩) trivial ?r35
    case y35 =>
     intro w_ hS_
     go_simp
     try with_reducible rfl
    simp only [Act.put, ZPa, ZPb, ZPc, ZPd, ZPe, ZPf]
    refine eH_one (k := 13) (fuel := 1) (by kernel_rfl) rfl (by kernel_rfl) (fun K_ hK_ => ?_)
    refine wp_store_c 25 _ _ rfl (w.heap.size) 1 rfl (.int .u64 s1) rfl 51 _ ra (by show 1 < 4; decide) infoW rfl ?_
    replace rb := (setRow_other wd_ (w.heap.size) (w.heap.size + 1) #[.int .u64 s0, .int .u64 s1, .int .u64 a2, .int .u64 a3] (by omega)).trans rb
    replace rc := (setRow_other wd_ (w.heap.size) (w.heap.size + 1 + 1) #[.int .u64 s0, .int .u64 s1, .int .u64 a2, .int .u64 a3] (by omega)).trans rc
    replace ra := setRow_heap wd_ (w.heap.size) _ #[.int .u64 s0, .int .u64 s1, .int .u64 a2, .int .u64 a3] _ _ ra
    replace hw := below_setRow hw (Nat.le_refl _) #[.int .u64 s0, .int .u64 s1, .int .u64 a2, .int .u64 a3]
    refine hK_ _ _ trivial ?_
    simp only [Act.put]
    clear hK_
    clear ca cb
    change wpAnyH _ _ _ _ _ _ _ _ (wd_.setRow (w.heap.size) #[.int .u64 s0, .int .u64 s1, .int .u64 a2, .int .u64 a3])
    generalize wd_.setRow (w.heap.size) #[.int .u64 s0, .int .u64 s1, .int .u64 a2, .int .u64 a3] = we_ at *
    refine wpAnyH_take (i := 14) (v := ?v36) rfl (by kernel_rfl) (by kernel_rfl) (by kernel_rfl) (fun _ _ _ h => h) (Or.inl ⟨by rfl, ?y36⟩) trivial ?r36
    case y36 =>
     intro w_ hS_
     go_simp
     try with_reducible rfl
    simp only [Act.put, ZPa, ZPb, ZPc, ZPd, ZPe, ZPf]
    refine wpAnyH_done (by kernel_rfl) ?_ _
    refine NoPanic.normal ?_
    go_wp2_with (fail)
    go_roundw
    case rel => exact ⟨2, by omega, by go_num, .inr (.inr (.inl ⟨rfl, rfl, ra⟩)), rb, rc, hw⟩
    case measure => simp [intOf]
  ·have hd : decide ((2 : Int) < 4) = true := by decide
   go_wp2_with (fail)
   refine wp_region_noPanic ?_
   refine wp_region_held (S := fun _ => True) (by kernel_rfl) ?_
   change wpAnyH _ _ _ _ _ _ _ _ (World.drew _)
   have hbd : Below wr.heap.size wr wr.drew := below_drN (Below.refl _ _) 1
   replace ra := keep hbd ra
   replace rb := keep hbd rb
   replace rc := keep hbd rc
   replace hw := Below.after hw hbd
   clear hbd
   generalize wr.drew = wd_ at *
   have ca : wd_.cell? ⟨w.heap.size, 2, none⟩ = some (.int .u64 a2) := cell_of_row wd_ (w.heap.size) 2 _ _ _ ra
   have cb : wd_.cell? ⟨w.heap.size + 1, 2, none⟩ = some (.int .u64 b2) := cell_of_row wd_ (w.heap.size + 1) 2 _ _ _ rb
   refine wpAnyH_take (i := 0) (v := ?v37) rfl (by kernel_rfl) (by kernel_rfl) (by kernel_rfl) (fun _ _ _ h => h) (Or.inl ⟨by rfl, ?y37⟩) trivial ?r37
   case y37 =>
    intro w_ hS_
    go_simp
    try with_reducible rfl
   simp only [Act.put, ZPa, ZPc, ZPd, ZPe, ZPf]
   refine wpAnyH_take (i := 1) (v := ?v38) rfl (by kernel_rfl) (by kernel_rfl) (by kernel_rfl) (fun _ _ _ h => h) (Or.inl ⟨by rfl, ?y38⟩) trivial ?r38
   case y38 =>
    intro w_ hS_
    go_simp
    try with_reducible rfl
   simp only [Act.put, ZPa, ZPb, ZPc, ZPd, ZPe, ZPf]
   refine wpAnyH_take (i := 2) (v := ?v39) rfl (by kernel_rfl) (by kernel_rfl) (by kernel_rfl) (fun _ _ _ h => h) (Or.inl ⟨by rfl, ?y39⟩) trivial ?r39
   case y39 =>
    intro w_ hS_
    go_simp
    try with_reducible rfl
   simp only [Act.put, ZPa, ZPb, ZPc, ZPd, ZPe, ZPf]
   refine wpAnyH_take (i := 4) (v := ?v40) rfl (by kernel_rfl) (by kernel_rfl) (by kernel_rfl) (fun _ _ _ h => h) (Or.inl ⟨by rfl, ?y40⟩) trivial ?r40
   case y40 =>
    intro w_ hS_
    go_simp
    try with_reducible rfl
   simp only [Act.put, ZPa, ZPb, ZPc, ZPd, ZPe, ZPf]
   refine wpAnyH_take (i := 5) (v := ?v41) rfl (by kernel_rfl) (by kernel_rfl) (by kernel_rfl) (fun _ _ _ h => h) (Or.inl ⟨by rfl, ?y41⟩) trivial ?r41
   case y41 =>
    intro w_ hS_
    go_simp
    try with_reducible rfl
   simp only [Act.put, ZPa, ZPb, ZPc, ZPd, ZPe, ZPf]
   refine wpAnyH_take (i := 7) (v := ?v42) rfl (by kernel_rfl) (by kernel_rfl) (by kernel_rfl) (fun _ _ _ h => h) (Or.inl ⟨by rfl, ?y42⟩) trivial ?r42
   case y42 =>
    intro w_ hS_
    go_simp
    try with_reducible rfl
   simp only [Act.put, ZPa, ZPb, ZPc, ZPd, ZPe, ZPf]
   refine eH_two (j := 3) (k := 6) (fuel := 8) (by kernel_rfl) rfl rfl (by kernel_rfl) (by kernel_rfl) (fun K_ hK_ => ?_) (fun K_ hK_ => ?_)
   ·skip
    refine wp_load_c 25 _ rfl (w.heap.size) 2 rfl _ ca Tryd.underlying25 ?_
    refine hK_ _ _ trivial ?_
    simp only [Act.put, ZPa, ZPb, ZPc, ZPd, ZPe, ZPf]
    clear hK_
    refine eH_one (k := 6) (fuel := 7) (by kernel_rfl) rfl (by kernel_rfl) (fun K_ hK_ => ?_)
    refine wp_load_c 25 _ rfl (w.heap.size + 1) 2 rfl _ cb Tryd.underlying25 ?_
    refine hK_ _ _ trivial ?_
    simp only [Act.put, ZPa, ZPb, ZPc, ZPd, ZPe, ZPf]
    clear hK_
    refine wpAnyH_take (i := 8) (v := ?v43) rfl (by kernel_rfl) (by kernel_rfl) (by kernel_rfl) (fun _ _ _ h => h) (Or.inl ⟨by rfl, ?y43⟩) trivial ?r43
    case y43 =>
     intro w_ hS_
     go_simp
     try with_reducible rfl
    simp only [Act.put, ZPa, ZPb, ZPc, ZPd, ZPe, ZPf]
    refine wpAnyH_take (i := 9) (v := ?v44) rfl (by kernel_rfl) (by kernel_rfl) (by kernel_rfl) (fun _ _ _ h => h) (Or.inl ⟨by rfl, ?y44⟩) trivial ?r44
    case y44 =>
     intro w_ hS_
     go_simp
     try with_reducible rfl
    simp only [Act.put, ZPa, ZPb, ZPc, ZPd, ZPe, ZPf]
    refine wpAnyH_take (i := 10) (v := ?v45) rfl (by kernel_rfl) (by kernel_rfl) (by kernel_rfl) (fun _ _ _ h => h) (Or.inl ⟨by rfl, ?y45⟩) trivial ?r45
    case y45 =>
     intro w_ hS_
     go_simp
     try with_reducible rfl
    simp only [Act.put, ZPa, ZPb, ZPc, ZPd, ZPe, ZPf]
    refine wpAnyH_take (i := 11) (v := ?v46) rfl (by kernel_rfl) (by kernel_rfl) (by kernel_rfl) (fun _ _ _ h => h) (Or.inl ⟨by rfl, ?y46⟩) trivial ?r46
    case y46 =>
     intro w_ hS_
     go_simp
     try with_reducible rfl
    simp only [Act.put, ZPa, ZPb, ZPc, ZPd, ZPe, ZPf]
    refine wpAnyH_take (i := 12) (v := ?v47) rfl (by kernel_rfl) (by kernel_rfl) (by kernel_rfl) (fun _ _ _ h => h) (Or.inl ⟨by rfl, ?y47⟩) trivial ?r47
    case y47 =>
     intro w_ hS_
     go_simp
     try with_reducible rfl
    simp only [Act.put, ZPa, ZPb, ZPc, ZPd, ZPe, ZPf]
    refine eH_one (k := 13) (fuel := 1) (by kernel_rfl) rfl (by kernel_rfl) (fun K_ hK_ => ?_)
    refine wp_store_c 25 _ _ rfl (w.heap.size) 2 rfl (.int .u64 s2) rfl 51 _ ra (by show 2 < 4; decide) infoW rfl ?_
    replace rb := (setRow_other wd_ (w.heap.size) (w.heap.size + 1) #[.int .u64 s0, .int .u64 s1, .int .u64 s2, .int .u64 a3] (by omega)).trans rb
    replace rc := (setRow_other wd_ (w.heap.size) (w.heap.size + 1 + 1) #[.int .u64 s0, .int .u64 s1, .int .u64 s2, .int .u64 a3] (by omega)).trans rc
    replace ra := setRow_heap wd_ (w.heap.size) _ #[.int .u64 s0, .int .u64 s1, .int .u64 s2, .int .u64 a3] _ _ ra
    replace hw := below_setRow hw (Nat.le_refl _) #[.int .u64 s0, .int .u64 s1, .int .u64 s2, .int .u64 a3]
    refine hK_ _ _ trivial ?_
    simp only [Act.put]
    clear hK_
    clear ca cb
    change wpAnyH _ _ _ _ _ _ _ _ (wd_.setRow (w.heap.size) #[.int .u64 s0, .int .u64 s1, .int .u64 s2, .int .u64 a3])
    generalize wd_.setRow (w.heap.size) #[.int .u64 s0, .int .u64 s1, .int .u64 s2, .int .u64 a3] = we_ at *
    refine wpAnyH_take (i := 14) (v := ?v48) rfl (by kernel_rfl) (by kernel_rfl) (by kernel_rfl) (fun _ _ _ h => h) (Or.inl ⟨by rfl, ?y48⟩) trivial ?r48
    case y48 =>
     intro w_ hS_
     go_simp
     try with_reducible rfl
    simp only [Act.put, ZPa, ZPb, ZPc, ZPd, ZPe, ZPf]
    refine wpAnyH_done (by kernel_rfl) ?_ _
    refine NoPanic.normal ?_
    go_wp2_with (fail)
    go_roundw
    case rel => exact ⟨3, by omega, by go_num, .inr (.inr (.inr (.inl ⟨rfl, rfl, ra⟩))), rb, rc, hw⟩
    case measure => simp [intOf]
   ·skip
    refine wp_load_c 25 _ rfl (w.heap.size + 1) 2 rfl _ cb Tryd.underlying25 ?_
    refine hK_ _ _ trivial ?_
    simp only [Act.put, ZPa, ZPb, ZPc, ZPd, ZPe, ZPf]
    clear hK_
    refine eH_one (k := 3) (fuel := 7) (by kernel_rfl) rfl (by kernel_rfl) (fun K_ hK_ => ?_)
    refine wp_load_c 25 _ rfl (w.heap.size) 2 rfl _ ca Tryd.underlying25 ?_
    refine hK_ _ _ trivial ?_
    simp only [Act.put, ZPa, ZPb, ZPc, ZPd, ZPe, ZPf]
    clear hK_
    refine wpAnyH_take (i := 8) (v := ?v49) rfl (by kernel_rfl) (by kernel_rfl) (by kernel_rfl) (fun _ _ _ h => h) (Or.inl ⟨by rfl, ?y49⟩) trivial ?r49
    case y49 =>
     intro w_ hS_
     go_simp
     try with_reducible rfl
    simp only [Act.put, ZPa, ZPb, ZPc, ZPd, ZPe, ZPf]
    refine wpAnyH_take (i := 9) (v := ?v50) rfl (by kernel_rfl) (by kernel_rfl) (by kernel_rfl) (fun _ _ _ h => h) (Or.inl ⟨by rfl, ?y50⟩) trivial ?r50
    case y50 =>
     intro w_ hS_
     go_simp
     try with_reducible rfl
    simp only [Act.put, ZPa, ZPb, ZPc, ZPd, ZPe, ZPf]
    refine wpAnyH_take (i := 10) (v := ?v51) rfl (by kernel_rfl) (by kernel_rfl) (by kernel_rfl) (fun _ _ _ h => h) (Or.inl ⟨by rfl, ?y51⟩) trivial ?r51
    case y51 =>
     intro w_ hS_
     go_simp
     try with_reducible rfl
    simp only [Act.put, ZPa, ZPb, ZPc, ZPd, ZPe, ZPf]
    refine wpAnyH_take (i := 11) (v := ?v52) rfl (by kernel_rfl) (by kernel_rfl) (by kernel_rfl) (fun _ _ _ h => h) (Or.inl ⟨by rfl, ?y52⟩) trivial ?r52
    case y52 =>
     intro w_ hS_
     go_simp
     try with_reducible rfl
    simp only [Act.put, ZPa, ZPb, ZPc, ZPd, ZPe, ZPf]
    refine wpAnyH_take (i := 12) (v := ?v53) rfl (by kernel_rfl) (by kernel_rfl) (by kernel_rfl) (fun _ _ _ h => h) (Or.inl ⟨by rfl, ?y53⟩) trivial ?r53
    case y53 =>
     intro w_ hS_
     go_simp
     try with_reducible rfl
    simp only [Act.put, ZPa, ZPb, ZPc, ZPd, ZPe, ZPf]
    refine eH_one (k := 13) (fuel := 1) (by kernel_rfl) rfl (by kernel_rfl) (fun K_ hK_ => ?_)
    refine wp_store_c 25 _ _ rfl (w.heap.size) 2 rfl (.int .u64 s2) rfl 51 _ ra (by show 2 < 4; decide) infoW rfl ?_
    replace rb := (setRow_other wd_ (w.heap.size) (w.heap.size + 1) #[.int .u64 s0, .int .u64 s1, .int .u64 s2, .int .u64 a3] (by omega)).trans rb
    replace rc := (setRow_other wd_ (w.heap.size) (w.heap.size + 1 + 1) #[.int .u64 s0, .int .u64 s1, .int .u64 s2, .int .u64 a3] (by omega)).trans rc
    replace ra := setRow_heap wd_ (w.heap.size) _ #[.int .u64 s0, .int .u64 s1, .int .u64 s2, .int .u64 a3] _ _ ra
    replace hw := below_setRow hw (Nat.le_refl _) #[.int .u64 s0, .int .u64 s1, .int .u64 s2, .int .u64 a3]
    refine hK_ _ _ trivial ?_
    simp only [Act.put]
    clear hK_
    clear ca cb
    change wpAnyH _ _ _ _ _ _ _ _ (wd_.setRow (w.heap.size) #[.int .u64 s0, .int .u64 s1, .int .u64 s2, .int .u64 a3])
    generalize wd_.setRow (w.heap.size) #[.int .u64 s0, .int .u64 s1, .int .u64 s2, .int .u64 a3] = we_ at *
    refine wpAnyH_take (i := 14) (v := ?v54) rfl (by kernel_rfl) (by kernel_rfl) (by kernel_rfl) (fun _ _ _ h => h) (Or.inl ⟨by rfl, ?y54⟩) trivial ?r54
    case y54 =>
     intro w_ hS_
     go_simp
     try with_reducible rfl
    simp only [Act.put, ZPa, ZPb, ZPc, ZPd, ZPe, ZPf]
    refine wpAnyH_done (by kernel_rfl) ?_ _
    refine NoPanic.normal ?_
    go_wp2_with (fail)
    go_roundw
    case rel => exact ⟨3, by omega, by go_num, .inr (.inr (.inr (.inl ⟨rfl, rfl, ra⟩))), rb, rc, hw⟩
    case measure => simp [intOf]
  ·have hd : decide ((3 : Int) < 4) = true := by decide
   go_wp2_with (fail)
   refine wp_region_noPanic ?_
   refine wp_region_held (S := fun _ => True) (by kernel_rfl) ?_
   change wpAnyH _ _ _ _ _ _ _ _ (World.drew _)
   have hbd : Below wr.heap.size wr wr.drew := below_drN (Below.refl _ _) 1
   replace ra := keep hbd ra
   replace rb := keep hbd rb
   replace rc := keep hbd rc
   replace hw := Below.after hw hbd
   clear hbd
   generalize wr.drew = wd_ at *
   have ca : wd_.cell? ⟨w.heap.size, 3, none⟩ = some (.int .u64 a3) := cell_of_row wd_ (w.heap.size) 3 _ _ _ ra
   have cb : wd_.cell? ⟨w.heap.size + 1, 3, none⟩ = some (.int .u64 b3) := cell_of_row wd_ (w.heap.size + 1) 3 _ _ _ rb
   refine wpAnyH_take (i := 0) (v := ?v55) rfl (by kernel_rfl) (by kernel_rfl) (by kernel_rfl) (fun _ _ _ h => h) (Or.inl ⟨by rfl, ?y55⟩) trivial ?r55
   case y55 =>
    intro w_ hS_
    go_simp
    try with_reducible rfl
   simp only [Act.put, ZPa, ZPc, ZPd, ZPe, ZPf]
   refine wpAnyH_take (i := 1) (v := ?v56) rfl (by kernel_rfl) (by kernel_rfl) (by kernel_rfl) (fun _ _ _ h => h) (Or.inl ⟨by rfl, ?y56⟩) trivial ?r56
   case y56 =>
    intro w_ hS_
    go_simp
    try with_reducible rfl
   simp only [Act.put, ZPa, ZPb, ZPc, ZPd, ZPe, ZPf]
   refine wpAnyH_take (i := 2) (v := ?v57) rfl (by kernel_rfl) (by kernel_rfl) (by kernel_rfl) (fun _ _ _ h => h) (Or.inl ⟨by rfl, ?y57⟩) trivial ?r57
   case y57 =>
    intro w_ hS_
    go_simp
    try with_reducible rfl
   simp only [Act.put, ZPa, ZPb, ZPc, ZPd, ZPe, ZPf]
   refine wpAnyH_take (i := 4) (v := ?v58) rfl (by kernel_rfl) (by kernel_rfl) (by kernel_rfl) (fun _ _ _ h => h) (Or.inl ⟨by rfl, ?y58⟩) trivial ?r58
   case y58 =>
    intro w_ hS_
    go_simp
    try with_reducible rfl
   simp only [Act.put, ZPa, ZPb, ZPc, ZPd, ZPe, ZPf]
   refine wpAnyH_take (i := 5) (v := ?v59) rfl (by kernel_rfl) (by kernel_rfl) (by kernel_rfl) (fun _ _ _ h => h) (Or.inl ⟨by rfl, ?y59⟩) trivial ?r59
   case y59 =>
    intro w_ hS_
    go_simp
    try with_reducible rfl
   simp only [Act.put, ZPa, ZPb, ZPc, ZPd, ZPe, ZPf]
   refine wpAnyH_take (i := 7) (v := ?v60) rfl (by kernel_rfl) (by kernel_rfl) (by kernel_rfl) (fun _ _ _ h => h) (Or.inl ⟨by rfl, ?y60⟩) trivial ?r60
   case y60 =>
    intro w_ hS_
    go_simp
    try with_reducible rfl
   simp only [Act.put, ZPa, ZPb, ZPc, ZPd, ZPe, ZPf]
   refine eH_two (j := 3) (k := 6) (fuel := 8) (by kernel_rfl) rfl rfl (by kernel_rfl) (by kernel_rfl) (fun K_ hK_ => ?_) (fun K_ hK_ => ?_)
   ·skip
    refine wp_load_c 25 _ rfl (w.heap.size) 3 rfl _ ca Tryd.underlying25 ?_
    refine hK_ _ _ trivial ?_
    simp only [Act.put, ZPa, ZPb, ZPc, ZPd, ZPe, ZPf]
    clear hK_
    refine eH_one (k := 6) (fuel := 7) (by kernel_rfl) rfl (by kernel_rfl) (fun K_ hK_ => ?_)
    refine wp_load_c 25 _ rfl (w.heap.size + 1) 3 rfl _ cb Tryd.underlying25 ?_
    refine hK_ _ _ trivial ?_
    simp only [Act.put, ZPa, ZPb, ZPc, ZPd, ZPe, ZPf]
    clear hK_
    refine wpAnyH_take (i := 8) (v := ?v61) rfl (by kernel_rfl) (by kernel_rfl) (by kernel_rfl) (fun _ _ _ h => h) (Or.inl ⟨by rfl, ?y61⟩) trivial ?r61
    case y61 =>
     intro w_ hS_
     go_simp
     try with_reducible rfl
    simp only [Act.put, ZPa, ZPb, ZPc, ZPd, ZPe, ZPf]
    refine wpAnyH_take (i := 9) (v := ?v62) rfl (by kernel_rfl) (by kernel_rfl) (by kernel_rfl) (fun _ _ _ h => h) (Or.inl ⟨by rfl, ?y62⟩) trivial ?r62
    case y62 =>
     intro w_ hS_
     go_simp
     try with_reducible rfl
    simp only [Act.put, ZPa, ZPb, ZPc, ZPd, ZPe, ZPf]
    refine wpAnyH_take (i := 10) (v := ?v63) rfl (by kernel_rfl) (by kernel_rfl) (by kernel_rfl) (fun _ _ _ h => h) (Or.inl ⟨by rfl, ?y63⟩) trivial ?r63
    case y63 =>
     intro w_ hS_
     go_simp
     try with_reducible rfl
    simp only [Act.put, ZPa, ZPb, ZPc, ZPd, ZPe, ZPf]
    refine wpAnyH_take (i := 11) (v := ?v64) rfl (by kernel_rfl) (by kernel_rfl) (by kernel_rfl) (fun _ _ _ h => h) (Or.inl ⟨by rfl, ?y64⟩) trivial ?r64
    case y64 =>
     intro w_ hS_
     go_simp
     try with_reducible rfl
    simp only [Act.put, ZPa, ZPb, ZPc, ZPd, ZPe, ZPf]
    refine wpAnyH_take (i := 12) (v := ?v65) rfl (by kernel_rfl) (by kernel_rfl) (by kernel_rfl) (fun _ _ _ h => h) (Or.inl ⟨by rfl, ?y65⟩) trivial ?r65
    case y65 =>
     intro w_ hS_
     go_simp
     try with_reducible rfl
    simp only [Act.put, ZPa, ZPb, ZPc, ZPd, ZPe, ZPf]
    refine eH_one (k := 13) (fuel := 1) (by kernel_rfl) rfl (by kernel_rfl) (fun K_ hK_ => ?_)
    refine wp_store_c 25 _ _ rfl (w.heap.size) 3 rfl (.int .u64 s3) rfl 51 _ ra (by show 3 < 4; decide) infoW rfl ?_
    replace rb := (setRow_other wd_ (w.heap.size) (w.heap.size + 1) #[.int .u64 s0, .int .u64 s1, .int .u64 s2, .int .u64 s3] (by omega)).trans rb
    replace rc := (setRow_other wd_ (w.heap.size) (w.heap.size + 1 + 1) #[.int .u64 s0, .int .u64 s1, .int .u64 s2, .int .u64 s3] (by omega)).trans rc
    replace ra := setRow_heap wd_ (w.heap.size) _ #[.int .u64 s0, .int .u64 s1, .int .u64 s2, .int .u64 s3] _ _ ra
    replace hw := below_setRow hw (Nat.le_refl _) #[.int .u64 s0, .int .u64 s1, .int .u64 s2, .int .u64 s3]
    refine hK_ _ _ trivial ?_
    simp only [Act.put]
    clear hK_
    clear ca cb
    change wpAnyH _ _ _ _ _ _ _ _ (wd_.setRow (w.heap.size) #[.int .u64 s0, .int .u64 s1, .int .u64 s2, .int .u64 s3])
    generalize wd_.setRow (w.heap.size) #[.int .u64 s0, .int .u64 s1, .int .u64 s2, .int .u64 s3] = we_ at *
    refine wpAnyH_take (i := 14) (v := ?v66) rfl (by kernel_rfl) (by kernel_rfl) (by kernel_rfl) (fun _ _ _ h => h) (Or.inl ⟨by rfl, ?y66⟩) trivial ?r66
    case y66 =>
     intro w_ hS_
     go_simp
     try with_reducible rfl
    simp only [Act.put, ZPa, ZPb, ZPc, ZPd, ZPe, ZPf]
    refine wpAnyH_done (by kernel_rfl) ?_ _
    refine NoPanic.normal ?_
    go_wp2_with (fail)
    go_roundw
    case rel => exact ⟨4, by omega, by go_num, .inr (.inr (.inr (.inr ⟨rfl, rfl, ra⟩))), rb, rc, hw⟩
    case measure => simp [intOf]
   ·skip
    refine wp_load_c 25 _ rfl (w.heap.size + 1) 3 rfl _ cb Tryd.underlying25 ?_
    refine hK_ _ _ trivial ?_
    simp only [Act.put, ZPa, ZPb, ZPc, ZPd, ZPe, ZPf]
    clear hK_
    refine eH_one (k := 3) (fuel := 7) (by kernel_rfl) rfl (by kernel_rfl) (fun K_ hK_ => ?_)
    refine wp_load_c 25 _ rfl (w.heap.size) 3 rfl _ ca Tryd.underlying25 ?_
    refine hK_ _ _ trivial ?_
    simp only [Act.put, ZPa, ZPb, ZPc, ZPd, ZPe, ZPf]
    clear hK_
    refine wpAnyH_take (i := 8) (v := ?v67) rfl (by kernel_rfl) (by kernel_rfl) (by kernel_rfl) (fun _ _ _ h => h) (Or.inl ⟨by rfl, ?y67⟩) trivial ?r67
    case y67 =>
     intro w_ hS_
     go_simp
     try with_reducible rfl
    simp only [Act.put, ZPa, ZPb, ZPc, ZPd, ZPe, ZPf]
    refine wpAnyH_take (i := 9) (v := ?v68) rfl (by kernel_rfl) (by kernel_rfl) (by kernel_rfl) (fun _ _ _ h => h) (Or.inl ⟨by rfl, ?y68⟩) trivial ?r68
    case y68 =>
     intro w_ hS_
     go_simp
     try with_reducible rfl
    simp only [Act.put, ZPa, ZPb, ZPc, ZPd, ZPe, ZPf]
    refine wpAnyH_take (i := 10) (v := ?v69) rfl (by kernel_rfl) (by kernel_rfl) (by kernel_rfl) (fun _ _ _ h => h) (Or.inl ⟨by rfl, ?y69⟩) trivial ?r69
    case y69 =>
     intro w_ hS_
     go_simp
     try with_reducible rfl
    simp only [Act.put, ZPa, ZPb, ZPc, ZPd, ZPe, ZPf]
    refine wpAnyH_take (i := 11) (v := ?v70) rfl (by kernel_rfl) (by kernel_rfl) (by kernel_rfl) (fun _ _ _ h => h) (Or.inl ⟨by rfl, ?y70⟩) trivial ?r70
    case y70 =>
     intro w_ hS_
     go_simp
     try with_reducible rfl
    simp only [Act.put, ZPa, ZPb, ZPc, ZPd, ZPe, ZPf]
    refine wpAnyH_take (i := 12) (v := ?v71) rfl (by kernel_rfl) (by kernel_rfl) (by kernel_rfl) (fun _ _ _ h => h) (Or.inl ⟨by rfl, ?y71⟩) trivial ?r71
    case y71 =>
     intro w_ hS_
     go_simp
     try with_reducible rfl
    simp only [Act.put, ZPa, ZPb, ZPc, ZPd, ZPe, ZPf]
    refine eH_one (k := 13) (fuel := 1) (by kernel_rfl) rfl (by kernel_rfl) (fun K_ hK_ => ?_)
    refine wp_store_c 25 _ _ rfl (w.heap.size) 3 rfl (.int .u64 s3) rfl 51 _ ra (by show 3 < 4; decide) infoW rfl ?_
    replace rb := (setRow_other wd_ (w.heap.size) (w.heap.size + 1) #[.int .u64 s0, .int .u64 s1, .int .u64 s2, .int .u64 s3] (by omega)).trans rb
    replace rc := (setRow_other wd_ (w.heap.size) (w.heap.size + 1 + 1) #[.int .u64 s0, .int .u64 s1, .int .u64 s2, .int .u64 s3] (by omega)).trans rc
    replace ra := setRow_heap wd_ (w.heap.size) _ #[.int .u64 s0, .int .u64 s1, .int .u64 s2, .int .u64 s3] _ _ ra
    replace hw := below_setRow hw (Nat.le_refl _) #[.int .u64 s0, .int .u64 s1, .int .u64 s2, .int .u64 s3]
    refine hK_ _ _ trivial ?_
    simp only [Act.put]
    clear hK_
    clear ca cb
    change wpAnyH _ _ _ _ _ _ _ _ (wd_.setRow (w.heap.size) #[.int .u64 s0, .int .u64 s1, .int .u64 s2, .int .u64 s3])
    generalize wd_.setRow (w.heap.size) #[.int .u64 s0, .int .u64 s1, .int .u64 s2, .int .u64 s3] = we_ at *
    refine wpAnyH_take (i := 14) (v := ?v72) rfl (by kernel_rfl) (by kernel_rfl) (by kernel_rfl) (fun _ _ _ h => h) (Or.inl ⟨by rfl, ?y72⟩) trivial ?r72
    case y72 =>
     intro w_ hS_
     go_simp
     try with_reducible rfl
    simp only [Act.put, ZPa, ZPb, ZPc, ZPd, ZPe, ZPf]
    refine wpAnyH_done (by kernel_rfl) ?_ _
    refine NoPanic.normal ?_
    go_wp2_with (fail)
    go_roundw
    case rel => exact ⟨4, by omega, by go_num, .inr (.inr (.inr (.inr ⟨rfl, rfl, ra⟩))), rb, rc, hw⟩
    case measure => simp [intOf]
  ·have hd : decide ((4 : Int) < 4) = false := by decide
   go_wp2_with (first | (refine wpList_load_want rfl 51 _ rfl (w.heap.size) rfl 51 #[.int .u64 s0, .int .u64 s1, .int .u64 s2, .int .u64 s3] (0, 0) _ ra Tryd.underlying51 rfl (by kernel_rfl) ?_) | (refine wpList_store_row rfl 51 _ _ rfl (w.heap.size + 1 + 1) #[.int .u64 s0, .int .u64 s1, .int .u64 s2, .int .u64 s3] rfl rfl 51 _ rc (by kernel_rfl) rfl (by kernel_rfl) ?_) | fail)
   exact bodyPost_ret (v := .tuple #[.agg #[.int .u64 s0, .int .u64 s1, .int .u64 s2, .int .u64 s3], .int .u64 c4]) (results_row_slot Tryd.results53 _ _ (w.heap.size + 1 + 1) _ #[.int .u64 s0, .int .u64 s1, .int .u64 s2, .int .u64 s3] _ _ _ rfl (setRow_heap _ _ _ _ _ _ rc) rfl Tryd.underlying51 rfl (by kernel_rfl)) rfl ⟨⟨s0, s1, s2, s3, c1, c2, c3, c4, by omega, e1, e2, e3, qs0, qs1, qs2, qs3, qc4, rfl⟩, below_setRow hw (by omega) _⟩
end Go.Proofs.YtdcpcdkbhgkmlaaDoor
namespace Go.Proofs.YtdcpcdkbhgkmlaaDoor
set_option maxRecDepth 100000
open Go.RowKit Go.Sort
attribute [local go_sem] setCell_drewN alloc_drewN
theorem times_step (x m c : Int) (hx : 0 ≤ x ∧ x < 18446744073709551616) (hm : 0 ≤ m ∧ m < 18446744073709551616) (hc : 0 ≤ c ∧ c < 18446744073709551616) : ∃ h l s o : Int, (∀ W, Calls Tryd.prog 102 #[.int .u64 x, .int .u64 m] W fun e w' => e = .returned (.tuple #[.int .u64 h, .int .u64 l]) ∧ w' = W) ∧ (∀ W, (callFunc 103 #[.int .u64 l, .int .u64 c, .int .u64 0]).run Tryd.prog W = .ok (.value (.tuple #[.int .u64 s, .int .u64 o])) W) ∧ (0 ≤ s ∧ s < 18446744073709551616) ∧ (0 ≤ h + o ∧ h + o < 18446744073709551616) ∧ s + 18446744073709551616 * (h + o) = x * m + c := by
 have hp : 0 ≤ x * m ∧ x * m ≤ 340282366920938463426481119284349108225 := ⟨Int.mul_nonneg hx.1 hm.1, by
  have a : x * m ≤ 18446744073709551615 * m := Int.mul_le_mul_of_nonneg_right (by omega) hm.1
  omega⟩
 have c1 := fun W => mul64_any x m hx.1 hx.2 hm.1 hm.2 W
 obtain ⟨s, o, qs, qo, e, f⟩ := add64_call' (x * m % 18446744073709551616) c 0 (by omega) hc.1 (by omega) hc.2 (by decide) (by decide)
 exact ⟨x * m / 18446744073709551616, x * m % 18446744073709551616, s, o, c1, f, qs, by omega, by omega⟩
set_option maxRecDepth 100000 in
set_option maxHeartbeats 8000000 in
theorem wtimes_walk (a0 a1 a2 a3 m : Int) (ha0 : 0 ≤ a0 ∧ a0 < 18446744073709551616) (ha1 : 0 ≤ a1 ∧ a1 < 18446744073709551616) (ha2 : 0 ≤ a2 ∧ a2 < 18446744073709551616) (ha3 : 0 ≤ a3 ∧ a3 < 18446744073709551616) (hm : 0 ≤ m ∧ m < 18446744073709551616) (w : World) :
 Calls Tryd.prog 104 #[.agg #[.int .u64 a0, .int .u64 a1, .int .u64 a2, .int .u64 a3], .int .u64 m] w fun e w' => (∃ s0 s1 s2 s3 c1 c2 c3 c4 : Int, s0 + 18446744073709551616 * c1 = a0 * m ∧ s1 + 18446744073709551616 * c2 = a1 * m + c1 ∧ s2 + 18446744073709551616 * c3 = a2 * m + c2 ∧ s3 + 18446744073709551616 * c4 = a3 * m + c3 ∧ (0 ≤ s0 ∧ s0 < 18446744073709551616) ∧ (0 ≤ s1 ∧ s1 < 18446744073709551616) ∧ (0 ≤ s2 ∧ s2 < 18446744073709551616) ∧ (0 ≤ s3 ∧ s3 < 18446744073709551616) ∧ (0 ≤ c4 ∧ c4 < 18446744073709551616) ∧ e = .returned (.tuple #[.agg #[.int .u64 s0, .int .u64 s1, .int .u64 s2, .int .u64 s3], .int .u64 c4])) ∧ Below w.heap.size w w' := by
 obtain ⟨h0, l0, s0, o0, g0, f0, qs0, qc0, e0⟩ := times_step a0 m 0 ha0 hm ⟨by decide, by decide⟩
 obtain ⟨h1, l1, s1, o1, g1, f1, qs1, qc1, e1⟩ := times_step a1 m (h0 + o0) ha1 hm qc0
 obtain ⟨h2, l2, s2, o2, g2, f2, qs2, qc2, e2⟩ := times_step a2 m (h1 + o1) ha2 hm qc1
 obtain ⟨h3, l3, s3, o3, g3, f3, qs3, qc3, e3⟩ := times_step a3 m (h2 + o2) ha3 hm qc2
 have ra := hp2_0 w (.cells #[.int .u64 a0, .int .u64 a1, .int .u64 a2, .int .u64 a3] 51) (.cells #[.int .u64 0, .int .u64 0, .int .u64 0, .int .u64 0] 51)
 have rc := hp2_1 w (.cells #[.int .u64 a0, .int .u64 a1, .int .u64 a2, .int .u64 a3] 51) (.cells #[.int .u64 0, .int .u64 0, .int .u64 0, .int .u64 0] 51)
 have hw : Below w.heap.size w ((w.alloc (.cells #[.int .u64 a0, .int .u64 a1, .int .u64 a2, .int .u64 a3] 51)).alloc (.cells #[.int .u64 0, .int .u64 0, .int .u64 0, .int .u64 0] 51)) := ((Below.refl _ _).alloc (Nat.le_refl _) _).alloc (by simp) _
 go_enter Tryd.func104, Tryd.ntmps104
 go_wp2_with (fail)
 generalize ((w.alloc (.cells #[.int .u64 a0, .int .u64 a1, .int .u64 a2, .int .u64 a3] 51)).alloc (.cells #[.int .u64 0, .int .u64 0, .int .u64 0, .int .u64 0] 51)) = w0 at *
 go_loopw [6, 11] (fun u v wr => ∃ k : Nat, k ≤ 4 ∧ v = .int .i64 k ∧ ((k = 0 ∧ u = .int .u64 0 ∧ wr.heap[w.heap.size]? = some (.cells #[.int .u64 a0, .int .u64 a1, .int .u64 a2, .int .u64 a3] 51 (0, 0))) ∨ (k = 1 ∧ u = .int .u64 (h0 + o0) ∧ wr.heap[w.heap.size]? = some (.cells #[.int .u64 s0, .int .u64 a1, .int .u64 a2, .int .u64 a3] 51 (0, 0))) ∨ (k = 2 ∧ u = .int .u64 (h1 + o1) ∧ wr.heap[w.heap.size]? = some (.cells #[.int .u64 s0, .int .u64 s1, .int .u64 a2, .int .u64 a3] 51 (0, 0))) ∨ (k = 3 ∧ u = .int .u64 (h2 + o2) ∧ wr.heap[w.heap.size]? = some (.cells #[.int .u64 s0, .int .u64 s1, .int .u64 s2, .int .u64 a3] 51 (0, 0))) ∨ (k = 4 ∧ u = .int .u64 (h3 + o3) ∧ wr.heap[w.heap.size]? = some (.cells #[.int .u64 s0, .int .u64 s1, .int .u64 s2, .int .u64 s3] 51 (0, 0)))) ∧ wr.heap[w.heap.size + 1]? = some (.cells #[.int .u64 0, .int .u64 0, .int .u64 0, .int .u64 0] 51 (0, 0)) ∧ Below w.heap.size w wr) (fun _ v _ => 4 - (intOf v).toNat)
 case atStart => exact ⟨0, by omega, rfl, .inl ⟨rfl, rfl, ra⟩, rc, hw⟩
 case round =>
  clear ra rc hw
  obtain ⟨k, hk, rfl, hx, rc, hw⟩ := hrel
  rcases hx with ⟨rfl, rfl, ra⟩ | ⟨rfl, rfl, ra⟩ | ⟨rfl, rfl, ra⟩ | ⟨rfl, rfl, ra⟩ | ⟨rfl, rfl, ra⟩
  ·have hd : decide ((0 : Int) < 4) = true := by decide
   have ca : wr.cell? ⟨w.heap.size, 0, none⟩ = some (.int .u64 a0) := cell_of_row wr (w.heap.size) 0 _ _ _ ra
   have G := hide g0
   have q1 := setRow_heap wr (w.heap.size) _ #[.int .u64 s0, .int .u64 a1, .int .u64 a2, .int .u64 a3] _ _ ra
   have q2 := (setRow_other wr (w.heap.size) (w.heap.size + 1) #[.int .u64 s0, .int .u64 a1, .int .u64 a2, .int .u64 a3] (by omega)).trans rc
   have q3 := below_setRow hw (Nat.le_refl _) #[.int .u64 s0, .int .u64 a1, .int .u64 a2, .int .u64 a3]
   clear g0 g1 g2 g3
   go_wp2_with (first | (refine wpList_load_cell31 rfl 25 _ rfl (w.heap.size) 0 rfl _ ca Tryd.underlying25 ?_) | (go_at_call 102; refine (G.out _).mono ?_; rintro e W ⟨rfl, rfl⟩) | (refine wpList_store_cell31 rfl 25 _ _ rfl (w.heap.size) 0 rfl (.int .u64 s0) rfl 51 _ ra (by show 0 < 4; decide) infoW rfl ?_) | fail)
   go_roundw
   case rel => exact ⟨1, by omega, by go_num, .inr (.inl ⟨rfl, by go_num, q1⟩), q2, q3⟩
   case measure => simp [intOf]
  ·have hd : decide ((1 : Int) < 4) = true := by decide
   have ca : wr.cell? ⟨w.heap.size, 1, none⟩ = some (.int .u64 a1) := cell_of_row wr (w.heap.size) 1 _ _ _ ra
   have G := hide g1
   have q1 := setRow_heap wr (w.heap.size) _ #[.int .u64 s0, .int .u64 s1, .int .u64 a2, .int .u64 a3] _ _ ra
   have q2 := (setRow_other wr (w.heap.size) (w.heap.size + 1) #[.int .u64 s0, .int .u64 s1, .int .u64 a2, .int .u64 a3] (by omega)).trans rc
   have q3 := below_setRow hw (Nat.le_refl _) #[.int .u64 s0, .int .u64 s1, .int .u64 a2, .int .u64 a3]
   clear g0 g1 g2 g3
   go_wp2_with (first | (refine wpList_load_cell31 rfl 25 _ rfl (w.heap.size) 1 rfl _ ca Tryd.underlying25 ?_) | (go_at_call 102; refine (G.out _).mono ?_; rintro e W ⟨rfl, rfl⟩) | (refine wpList_store_cell31 rfl 25 _ _ rfl (w.heap.size) 1 rfl (.int .u64 s1) rfl 51 _ ra (by show 1 < 4; decide) infoW rfl ?_) | fail)
   go_roundw
   case rel => exact ⟨2, by omega, by go_num, .inr (.inr (.inl ⟨rfl, by go_num, q1⟩)), q2, q3⟩
   case measure => simp [intOf]
  ·have hd : decide ((2 : Int) < 4) = true := by decide
   have ca : wr.cell? ⟨w.heap.size, 2, none⟩ = some (.int .u64 a2) := cell_of_row wr (w.heap.size) 2 _ _ _ ra
   have G := hide g2
   have q1 := setRow_heap wr (w.heap.size) _ #[.int .u64 s0, .int .u64 s1, .int .u64 s2, .int .u64 a3] _ _ ra
   have q2 := (setRow_other wr (w.heap.size) (w.heap.size + 1) #[.int .u64 s0, .int .u64 s1, .int .u64 s2, .int .u64 a3] (by omega)).trans rc
   have q3 := below_setRow hw (Nat.le_refl _) #[.int .u64 s0, .int .u64 s1, .int .u64 s2, .int .u64 a3]
   clear g0 g1 g2 g3
   go_wp2_with (first | (refine wpList_load_cell31 rfl 25 _ rfl (w.heap.size) 2 rfl _ ca Tryd.underlying25 ?_) | (go_at_call 102; refine (G.out _).mono ?_; rintro e W ⟨rfl, rfl⟩) | (refine wpList_store_cell31 rfl 25 _ _ rfl (w.heap.size) 2 rfl (.int .u64 s2) rfl 51 _ ra (by show 2 < 4; decide) infoW rfl ?_) | fail)
   go_roundw
   case rel => exact ⟨3, by omega, by go_num, .inr (.inr (.inr (.inl ⟨rfl, by go_num, q1⟩))), q2, q3⟩
   case measure => simp [intOf]
  ·have hd : decide ((3 : Int) < 4) = true := by decide
   have ca : wr.cell? ⟨w.heap.size, 3, none⟩ = some (.int .u64 a3) := cell_of_row wr (w.heap.size) 3 _ _ _ ra
   have G := hide g3
   have q1 := setRow_heap wr (w.heap.size) _ #[.int .u64 s0, .int .u64 s1, .int .u64 s2, .int .u64 s3] _ _ ra
   have q2 := (setRow_other wr (w.heap.size) (w.heap.size + 1) #[.int .u64 s0, .int .u64 s1, .int .u64 s2, .int .u64 s3] (by omega)).trans rc
   have q3 := below_setRow hw (Nat.le_refl _) #[.int .u64 s0, .int .u64 s1, .int .u64 s2, .int .u64 s3]
   clear g0 g1 g2 g3
   go_wp2_with (first | (refine wpList_load_cell31 rfl 25 _ rfl (w.heap.size) 3 rfl _ ca Tryd.underlying25 ?_) | (go_at_call 102; refine (G.out _).mono ?_; rintro e W ⟨rfl, rfl⟩) | (refine wpList_store_cell31 rfl 25 _ _ rfl (w.heap.size) 3 rfl (.int .u64 s3) rfl 51 _ ra (by show 3 < 4; decide) infoW rfl ?_) | fail)
   go_roundw
   case rel => exact ⟨4, by omega, by go_num, .inr (.inr (.inr (.inr ⟨rfl, by go_num, q1⟩))), q2, q3⟩
   case measure => simp [intOf]
  ·have hd : decide ((4 : Int) < 4) = false := by decide
   clear g0 g1 g2 g3
   go_wp2_with (first | (refine wpList_load_want rfl 51 _ rfl (w.heap.size) rfl 51 #[.int .u64 s0, .int .u64 s1, .int .u64 s2, .int .u64 s3] (0, 0) _ ra Tryd.underlying51 rfl (by kernel_rfl) ?_) | (refine wpList_store_row rfl 51 _ _ rfl (w.heap.size + 1) #[.int .u64 s0, .int .u64 s1, .int .u64 s2, .int .u64 s3] rfl rfl 51 _ rc (by kernel_rfl) rfl (by kernel_rfl) ?_) | fail)
   exact bodyPost_ret (v := .tuple #[.agg #[.int .u64 s0, .int .u64 s1, .int .u64 s2, .int .u64 s3], .int .u64 (h3 + o3)]) (results_row_slot Tryd.results104 _ _ (w.heap.size + 1) _ #[.int .u64 s0, .int .u64 s1, .int .u64 s2, .int .u64 s3] _ _ _ rfl (setRow_heap _ _ _ _ _ _ rc) rfl Tryd.underlying51 rfl (by kernel_rfl)) rfl ⟨⟨s0, s1, s2, s3, (h0 + o0), (h1 + o1), (h2 + o2), (h3 + o3), by omega, e1, e2, e3, qs0, qs1, qs2, qs3, qc3, rfl⟩, below_setRow hw (by omega) _⟩
theorem a_wplus {A B : Int} (hA : 0 ≤ A ∧ A < 115792089237316195423570985008687907853269984665640564039457584007913129639936) (hB : 0 ≤ B ∧ B < 115792089237316195423570985008687907853269984665640564039457584007913129639936) : Gives 89 #[.agg (wd A), .agg (wd B)] (.tuple #[.agg (wd ((A + B) % 115792089237316195423570985008687907853269984665640564039457584007913129639936)), .int .u64 ((A + B) / 115792089237316195423570985008687907853269984665640564039457584007913129639936)]) := by
 obtain ⟨a0, a1, a2, a3, rfl, ha0, ha1, ha2, ha3⟩ := w4_of hA.1 hA.2
 obtain ⟨b0, b1, b2, b3, rfl, hb0, hb1, hb2, hb3⟩ := w4_of hB.1 hB.2
 rw [wd_w4 ha0 ha1 ha2 ha3, wd_w4 hb0 hb1 hb2 hb3]
 intro w
 refine (wplus_walk a0 a1 a2 a3 b0 b1 b2 b3 ha0 ha1 ha2 ha3 hb0 hb1 hb2 hb3 w).mono ?_
 rintro e w' ⟨⟨s0, s1, s2, s3, c1, c2, c3, c4, e0, e1, e2, e3, q0, q1, q2, q3, q4, rfl⟩, hb⟩
 obtain ⟨x1, x2⟩ := plus_w e0 e1 e2 e3 q0 q1 q2 q3
 rw [← x1, ← x2, wd_w4 q0 q1 q2 q3]
 exact ⟨rfl, hb⟩
theorem a_wminus {A B : Int} (hA : 0 ≤ A ∧ A < 115792089237316195423570985008687907853269984665640564039457584007913129639936) (hB : 0 ≤ B ∧ B < 115792089237316195423570985008687907853269984665640564039457584007913129639936) : Gives 53 #[.agg (wd A), .agg (wd B)] (.tuple #[.agg (wd ((A - B) % 115792089237316195423570985008687907853269984665640564039457584007913129639936)), .int .u64 (-((A - B) / 115792089237316195423570985008687907853269984665640564039457584007913129639936))]) := by
 obtain ⟨a0, a1, a2, a3, rfl, ha0, ha1, ha2, ha3⟩ := w4_of hA.1 hA.2
 obtain ⟨b0, b1, b2, b3, rfl, hb0, hb1, hb2, hb3⟩ := w4_of hB.1 hB.2
 rw [wd_w4 ha0 ha1 ha2 ha3, wd_w4 hb0 hb1 hb2 hb3]
 intro w
 refine (wminus_walk a0 a1 a2 a3 b0 b1 b2 b3 ha0 ha1 ha2 ha3 hb0 hb1 hb2 hb3 w).mono ?_
 rintro e w' ⟨⟨s0, s1, s2, s3, c1, c2, c3, c4, e0, e1, e2, e3, q0, q1, q2, q3, q4, rfl⟩, hb⟩
 obtain ⟨x1, x2⟩ := minus_w e0 e1 e2 e3 q0 q1 q2 q3
 rw [← x1, ← x2, wd_w4 q0 q1 q2 q3]
 exact ⟨rfl, hb⟩
theorem a_wtimes {A B  : Int} (hA : 0 ≤ A ∧ A < 115792089237316195423570985008687907853269984665640564039457584007913129639936) (hB : 0 ≤ B ∧ B < 18446744073709551616) : Gives 104 #[.agg (wd A), .int .u64 B] (.tuple #[.agg (wd (A * B % 115792089237316195423570985008687907853269984665640564039457584007913129639936)), .int .u64 (A * B / 115792089237316195423570985008687907853269984665640564039457584007913129639936)]) := by
 obtain ⟨a0, a1, a2, a3, rfl, ha0, ha1, ha2, ha3⟩ := w4_of hA.1 hA.2
 rw [wd_w4 ha0 ha1 ha2 ha3]
 intro w
 refine (wtimes_walk a0 a1 a2 a3 B ha0 ha1 ha2 ha3 hB w).mono ?_
 rintro e w' ⟨⟨s0, s1, s2, s3, c1, c2, c3, c4, e0, e1, e2, e3, q0, q1, q2, q3, q4, rfl⟩, hb⟩
 obtain ⟨x1, x2⟩ := times_w e0 e1 e2 e3 q0 q1 q2 q3
 rw [← x1, ← x2, wd_w4 q0 q1 q2 q3]
 exact ⟨rfl, hb⟩
end Go.Proofs.YtdcpcdkbhgkmlaaDoor
namespace Go.Proofs.YtdcpcdkbhgkmlaaDoor
set_option maxRecDepth 100000
open Go.RowKit Go.Sort
attribute [local go_sem] setCell_drewN alloc_drewN
def Bys (W : World) (v : Value) (bs : List Int) : Prop := ∃ ao cap, v = .slice ao bs.length cap ∧ bs.length ≤ 9223372036854775807 ∧ (∀ j, j < bs.length → ∃ b off, ao = some ⟨b, off, none⟩ ∧ b < W.heap.size ∧ W.cell? ⟨b, off + j, none⟩ = some (.int .u8 (bs.getD j 0))) ∧ (∀ z ∈ bs, 0 ≤ z ∧ z < 256)
theorem Bys.keep {W W' : World} {v : Value} {bs : List Int} (h : Bys W v bs) (hb : Below W.heap.size W W') : Bys W' v bs := by
 obtain ⟨ao, cap, e, hl, hc, hz⟩ := h
 refine ⟨ao, cap, e, hl, fun j hj => ?_, hz⟩
 obtain ⟨b, off, e1, h1, h2⟩ := hc j hj
 exact ⟨b, off, e1, Nat.lt_of_lt_of_le h1 hb.size, (hb.cell h1).trans h2⟩
def bval : List Int → Nat
 | [] => 0
 | z :: l => z.toNat + 256 * bval l
def bat (bs : List Int) (k : Nat) : Int := bs.getD (bs.length - 1 - k) 0
theorem bat_bd {bs : List Int} (h : ∀ z ∈ bs, 0 ≤ z ∧ z < 256) {k : Nat} (hk : k < bs.length) : 0 ≤ bat bs k ∧ bat bs k < 256 := by
 apply h
 have : bs.length - 1 - k < bs.length := by omega
 unfold bat
 rw [List.getD_eq_getElem?_getD, List.getElem?_eq_getElem this]
 exact List.getElem_mem _
def topv (bs : List Int) (k : Nat) : Nat := bval (bs.drop (bs.length - k))
theorem topv_zero (bs : List Int) : topv bs 0 = 0 := by simp [topv, bval]
theorem topv_succ {bs : List Int} {k : Nat} (hk : k < bs.length) : topv bs (k + 1) = topv bs k * 256 + (bat bs k).toNat := by
 have h1 : bs.length - (k + 1) < bs.length := by omega
 unfold topv bat
 rw [List.drop_eq_getElem_cons h1, bval, show bs.length - (k + 1) + 1 = bs.length - k by omega, show bs.length - 1 - k = bs.length - (k + 1) by omega, List.getD_eq_getElem?_getD, List.getElem?_eq_getElem h1]
 simp only [Option.getD_some]
 omega
theorem topv_all (bs : List Int) : topv bs bs.length = bval bs := by simp [topv]
end Go.Proofs.YtdcpcdkbhgkmlaaDoor
namespace Go.Proofs.YtdcpcdkbhgkmlaaDoor
set_option maxRecDepth 100000
open Go.RowKit Go.Sort
attribute [local go_sem] setCell_drewN alloc_drewN
end Go.Proofs.YtdcpcdkbhgkmlaaDoor

