import Derived.Test.YtdimjlbnjhopgaaDoorProg
import Derived.WalkKit
import Derived.WalkSpells
import Derived.WalkLawsBesides
import Derived.Lib.QuietBelow
import Derived.BigQuiet
import Derived.Test.YtdimjlbnjhopgaaDoorKa
import Derived.Test.YtdimjlbnjhopgaaDoorCy
namespace Go.Proofs.YtdimjlbnjhopgaaDoor
open Go.RowKit Go.Sort
attribute [local go_sem] setCell_drewN alloc_drewN


theorem xor128 (x : Int) (h : 0 ≤ x ∧ x < 256) : bits .xor .u8 x 128 = if x < 128 then x + 128 else x - 128 := by
  obtain ⟨n, rfl⟩ := Int.eq_ofNat_of_zero_le h.1
  have : ∀ n : Nat, n < 256 → bits .xor .u8 (n : Int) 128 = if (n : Int) < 128 then (n : Int) + 128 else n - 128 := by decide +kernel
  exact this n (by omega)
/-- The highest bit turned: the same number. -/
theorem turned_key {r : Array Value} {N : Int} (h : KeyOf r N) : ∃ N', KeyOf (r.setIfInBounds 31 (.int .u8 (bits .xor .u8 (byt N 31) 128))) N' ∧ num N' = num N := by
  obtain ⟨k0, k1, k2, k3, k4, k5, k6, k7, k8, k9, k10, k11, k12, k13, k14, k15, k16, k17, k18, k19, k20, k21, k22, k23, k24, k25, k26, k27, k28, k29, k30, k31, rfl, ⟨h0, h1, h2, h3, h4, h5, h6, h7, h8, h9, h10, h11, h12, h13, h14, h15, h16, h17, h18, h19, h20, h21, h22, h23, h24, h25, h26, h27, h28, h29, h30, h31⟩, rfl⟩ := h
  have hb := all32 h0 h1 h2 h3 h4 h5 h6 h7 h8 h9 h10 h11 h12 h13 h14 h15 h16 h17 h18 h19 h20 h21 h22 h23 h24 h25 h26 h27 h28 h29 h30 h31
  have e31 : byt (kv k0 k1 k2 k3 k4 k5 k6 k7 k8 k9 k10 k11 k12 k13 k14 k15 k16 k17 k18 k19 k20 k21 k22 k23 k24 k25 k26 k27 k28 k29 k30 k31) 31 = k31 := byt_valB _ hb 31 (by simp)
  rw [e31, xor128 k31 h31]
  refine ⟨kv k0 k1 k2 k3 k4 k5 k6 k7 k8 k9 k10 k11 k12 k13 k14 k15 k16 k17 k18 k19 k20 k21 k22 k23 k24 k25 k26 k27 k28 k29 k30 (if k31 < 128 then k31 + 128 else k31 - 128), ⟨_, _, _, _, _, _, _, _, _, _, _, _, _, _, _, _, _, _, _, _, _, _, _, _, _, _, _, _, _, _, _, _, rfl, ⟨h0, h1, h2, h3, h4, h5, h6, h7, h8, h9, h10, h11, h12, h13, h14, h15, h16, h17, h18, h19, h20, h21, h22, h23, h24, h25, h26, h27, h28, h29, h30, by split <;> omega⟩, rfl⟩, ?_⟩
  unfold num
  congr 1
  have e : ∀ x, kv k0 k1 k2 k3 k4 k5 k6 k7 k8 k9 k10 k11 k12 k13 k14 k15 k16 k17 k18 k19 k20 k21 k22 k23 k24 k25 k26 k27 k28 k29 k30 x = valB [k0, k1, k2, k3, k4, k5, k6, k7, k8, k9, k10, k11, k12, k13, k14, k15, k16, k17, k18, k19, k20, k21, k22, k23, k24, k25, k26, k27, k28, k29, k30] + 452312848583266388373324160190187140051835877600158453279131187530910662656 * x := by intro x; simp only [kv, valB]; omega
  have b : 0 ≤ valB [k0, k1, k2, k3, k4, k5, k6, k7, k8, k9, k10, k11, k12, k13, k14, k15, k16, k17, k18, k19, k20, k21, k22, k23, k24, k25, k26, k27, k28, k29, k30] ∧ valB [k0, k1, k2, k3, k4, k5, k6, k7, k8, k9, k10, k11, k12, k13, k14, k15, k16, k17, k18, k19, k20, k21, k22, k23, k24, k25, k26, k27, k28, k29, k30] < 452312848583266388373324160190187140051835877600158453279131187530910662656 := by simp only [valB]; omega
  rw [e, e]
  generalize valB [k0, k1, k2, k3, k4, k5, k6, k7, k8, k9, k10, k11, k12, k13, k14, k15, k16, k17, k18, k19, k20, k21, k22, k23, k24, k25, k26, k27, k28, k29, k30] = L at *
  clear e e31 hb
  split <;> omega
theorem clp_clp (N : Int) : clp (clp N) = clp N := by unfold clp; omega
theorem num_lt {Y : Int} (h : 0 ≤ Y ∧ Y < prm) : num Y = Y := by
  unfold num
  have h2 : Y < 57896044618658097711785492504343953926634992332820282019728792003956564819968 := Int.lt_trans h.2 (by decide)
  rw [Int.emod_eq_of_lt h.1 h2, Int.emod_eq_of_lt h.1 h.2]
theorem num_bd (U : Int) : 0 ≤ num U ∧ num U < prm := ⟨Int.emod_nonneg _ (by decide), Int.emod_lt_of_pos _ (by decide)⟩


theorem run_loadVar_int {P : Program} (w : World) (g o : Nat) (ty : TypeId) (v : Value) (hc : w.cell? ⟨g, o, none⟩ = some v) {k : IntKind} (hu : P.underlying ty = some (.int k)) : (loadVar ty ⟨g, o, none⟩).run P w = .ok v w := by
  simp [loadVar, isAgg, run_underlying hu, hc, go_sem]
theorem wpList_load_cell31 {P : Program} {ops : Array Oper} {rest : List Oper} {o : Oper} {a : Act} {w : World} {Q : Exit → Act → World → Prop} (hw : Region.wanted o (yielded ops a.tmps) = true) (ty : TypeId) (x : Operand) (ho : o.op = .load ty x)
    (g off : Nat) (hx : a.eval x = .pointer (some ⟨g, off, none⟩)) (v : Value) (hc : w.cell? ⟨g, off, none⟩ = some v) {k : IntKind} (hu : P.underlying ty = some (.int k))
    (h : wpList P ops Q rest (a.put o.dst v) w) : wpList P ops Q (o :: rest) a w := by
  refine BigFrame.wpList_want hw fun _ hK => ?_
  unfold Oper.wp execOp
  simp only [ho, hx, Instr.loadAt, Instr.sureAddr, Sem.run_bind, Sem.run_pure, Result.andThen_ok, run_loadVar_int w g off ty v hc hu]
  exact hK _ _ h
theorem wpList_store_cell31 {P : Program} {ops : Array Oper} {rest : List Oper} {o : Oper} {a : Act} {w : World} {Q : Exit → Act → World → Prop} (hgd : o.guard = none) (ty : TypeId) (x y : Operand) (ho : o.op = .store ty x y)
    (g off : Nat) (hx : a.eval x = .pointer (some ⟨g, off, none⟩)) (v : Value) (hy : a.eval y = v)
    (t : TypeId) (old : Array Value) (hg : w.heap[g]? = some (.cells old t (0, 0))) (hle : off < old.size) (hi : (P.info? ty).map (·.size) = some 1) (h1 : v.oneCell' = true)
    (h : wpList P ops Q rest (a.put o.dst undef) (w.setRow g (old.setIfInBounds off v))) : wpList P ops Q (o :: rest) a w := by
  refine wpList_plain hgd fun _ hK => ?_
  have hs := run_storeVar_mid (P := P) w g off ty #[v] (there_row hg (by simp; omega)) (by simpa using hi) (by simpa using h1)
  have e : w.setCells g off [v] = w.setRow g (old.setIfInBounds off v) := setCells_eq [v] off w old hg
  have hs' : (storeVar ty ⟨g, off, none⟩ v).run P w = .ok () (w.setRow g (old.setIfInBounds off v)) := by
    rw [← e]
    cases v <;> first | (simp [Value.oneCell'] at h1; done) | exact hs
  unfold Oper.wp execOp
  simp only [ho, hx, hy, Instr.storeAt, Instr.sureAddr, Sem.run_bind, Sem.run_pure, Result.andThen_ok, hs']
  exact hK _ _ h
set_option maxRecDepth 100000 in
set_option maxHeartbeats 8000000 in
theorem forms_any {k u : Array Value} {K U : Int} (hk : KeyOf k K) (hu : KeyOf u U) (w : World) (hF : Four w) :
    Calls Tryd.prog 4 #[.agg k, .agg u] w fun e w' => e = .returned (.bool true) ∧ Below w.heap.size w w' := by
  have heq : ∀ (q : Int) W, (Op.equalIn 10000 23 (.agg (kb q)) (.agg (kb q))).run Tryd.prog W = .ok true W := fun q W => by
    have e : kb q = #[.int .u8 (byt q 0), .int .u8 (byt q 1), .int .u8 (byt q 2), .int .u8 (byt q 3), .int .u8 (byt q 4), .int .u8 (byt q 5), .int .u8 (byt q 6), .int .u8 (byt q 7), .int .u8 (byt q 8), .int .u8 (byt q 9), .int .u8 (byt q 10), .int .u8 (byt q 11), .int .u8 (byt q 12), .int .u8 (byt q 13), .int .u8 (byt q 14), .int .u8 (byt q 15), .int .u8 (byt q 16), .int .u8 (byt q 17), .int .u8 (byt q 18), .int .u8 (byt q 19), .int .u8 (byt q 20), .int .u8 (byt q 21), .int .u8 (byt q 22), .int .u8 (byt q 23), .int .u8 (byt q 24), .int .u8 (byt q 25), .int .u8 (byt q 26), .int .u8 (byt q 27), .int .u8 (byt q 28), .int .u8 (byt q 29), .int .u8 (byt q 30), .int .u8 (byt q 31)] := rfl
    rw [e, keys_equal]; simp
  have cV := vectors_any
  have cC := a_clamp hk
  have hS : KeyOf (kb (clp K)) (clp K) := kb_key _ (clp_bd K).1 (Int.lt_trans (clp_bd K).2 (by decide))
  have cC2 := a_clamp hS
  rw [clp_clp] at cC2
  obtain ⟨N', hu', hnum⟩ := turned_key hu
  have s1 := a_scale hk hu
  have s2 := a_scale hS hu
  have s3 := a_scale hk hu'
  have hX : KeyOf (kb (num U)) (num U) := kb_key _ (num_bd U).1 (Int.lt_trans (num_bd U).2 (by decide))
  have s4 := a_scale hk hX
  have hY : KeyOf (kb (scl K U)) (scl K U) := kb_key _ (scl_bd K U).1 (scl_bd K U).2
  have e2 : scl (clp K) U = scl K U := by unfold scl; rw [clp_clp]
  have e3 : scl K N' = scl K U := by unfold scl; rw [hnum]
  have e4 : scl K (num U) = scl K U := by unfold scl; rw [num_lt (num_bd U)]
  rw [e2] at s2
  rw [e3] at s3
  rw [e4] at s4
  obtain ⟨xr, hxr, cF⟩ := a_from hu
  have cB := a_bytes hxr
  change Gives _ _ (.agg (kb (num U))) at cB
  obtain ⟨yr, hyr, cG⟩ := a_from hY
  have cD := a_bytes hyr
  have e5 : scl K U % 57896044618658097711785492504343953926634992332820282019728792003956564819968 % prm = scl K U := num_lt (scn_bd _ _)
  rw [e5] at cD
  have hz := key_zero
  have q31 : u[31]? = some (.int .u8 (byt U 31)) := by rw [key_kb hu]; rfl
  clear e2 e3 e4 e5 hnum
  generalize scl K U = Y at *
  generalize num U = X at *
  generalize clp K = S at *
  generalize byt U 31 = c31 at *
  generalize hu'e : u.setIfInBounds 31 (.int .u8 (bits .xor .u8 c31 128)) = u' at *
  go_enter Tryd.func4, Tryd.ntmps4
  go_wp2
  have rp0 : ((w.alloc (.cells k 23)).alloc (.cells u 23)).heap[w.heap.size]? = some (.cells k 23 (0, 0)) := hp2_0 w _ _
  have rp1 : ((w.alloc (.cells k 23)).alloc (.cells u 23)).heap[w.heap.size + 1]? = some (.cells u 23 (0, 0)) := hp2_1 w _ _
  have hw : Below w.heap.size w ((w.alloc (.cells k 23)).alloc (.cells u 23)) := (((Below.refl _ _).alloc (Nat.le_refl _) _).alloc (by simp) _)
  have hz0 := hF.1
  have f4 : Four ((w.alloc (.cells k 23)).alloc (.cells u 23)) := ((hF.alloc _).alloc _)
  generalize ((w.alloc (.cells k 23)).alloc (.cells u 23)) = w0 at *
  have Hrp0 := keepr rp0
  have Hrp1 := keepr rp1
  refine wp_region_quiet_below (by kernel_rfl) (by kernel_rfl) ?_
  go_big_quiet_step (exact cV.re f4)
  go_big_quiet_step (fail)
  go_big_quiet_step (fail)
  refine wpQuiet_load_want rfl 23 _ rfl (w.heap.size) rfl 23 k (0, 0) _ Hrp0.out Tryd.underlying23 rfl hk.info ?_
  simp only [Act.put, List.setIfInBounds_toArray, List.set_cons_succ, List.set_cons_zero]
  go_big_quiet_step (exact cC.re)
  go_big_quiet_step (exact cC2.re)
  refine wpQuiet_load_want rfl 23 _ rfl (w.heap.size) rfl 23 k (0, 0) _ Hrp0.out Tryd.underlying23 rfl hk.info ?_
  simp only [Act.put, List.setIfInBounds_toArray, List.set_cons_succ, List.set_cons_zero]
  go_big_quiet_step (exact cC.re)
  go_big_quiet_step (fail)
  go_big_quiet_step (fail)
  refine wpQuiet_nil ?_
  rintro _ ⟨p, rfl⟩
  have hb := below_regrown w0 p.d p.os
  generalize grow (redrawn w0 p.d) p.os = w1 at *
  replace rp0 := keep hb rp0
  replace rp1 := keep hb rp1
  replace hw := Below.after hw hb
  replace f4 := f4.below hb
  clear hb
  clear Hrp0 Hrp1
  go_wp2_with (first | (refine wpList_load_want rfl 23 _ rfl (w.heap.size) rfl 23 k (0, 0) _ rp0 Tryd.underlying23 rfl hk.info ?_) | (refine wpList_load_want rfl 23 _ rfl (w.heap.size + 1) rfl 23 u (0, 0) _ rp1 Tryd.underlying23 rfl hu.info ?_) | fail)
  refine (s1.at f4).mono ?_
  rintro e w2 ⟨rfl, hb⟩
  replace rp0 := keep hb rp0
  replace rp1 := keep hb rp1
  replace hw := Below.after hw hb
  replace f4 := f4.below hb
  clear hb
  have r5 : ((w2.alloc (.cells (kb Y) 23)).alloc (.cells u 23)).heap[w2.heap.size]? = some (.cells (kb Y) 23 (0, 0)) := hp2_0 w2 _ _
  have r6 : ((w2.alloc (.cells (kb Y) 23)).alloc (.cells u 23)).heap[w2.heap.size + 1]? = some (.cells u 23 (0, 0)) := hp2_1 w2 _ _
  have hb : Below w2.heap.size w2 ((w2.alloc (.cells (kb Y) 23)).alloc (.cells u 23)) := ((Below.refl _ _).alloc (Nat.le_refl _) _).alloc (by simp) _
  have y0 := lt_of_row rp1
  have y1 := hw.size
  have rp1' : (w2.alloc (.cells (kb Y) 23)).heap[w.heap.size + 1]? = some (.cells u 23 (0, 0)) := keep ((Below.refl _ _).alloc (Nat.le_refl _) _) rp1
  go_wp2_with (first | (refine wpList_store_row rfl 23 _ _ rfl (w2.heap.size) (kb Y) rfl rfl 23 #[.int .u8 0, .int .u8 0, .int .u8 0, .int .u8 0, .int .u8 0, .int .u8 0, .int .u8 0, .int .u8 0, .int .u8 0, .int .u8 0, .int .u8 0, .int .u8 0, .int .u8 0, .int .u8 0, .int .u8 0, .int .u8 0, .int .u8 0, .int .u8 0, .int .u8 0, .int .u8 0, .int .u8 0, .int .u8 0, .int .u8 0, .int .u8 0, .int .u8 0, .int .u8 0, .int .u8 0, .int .u8 0, .int .u8 0, .int .u8 0, .int .u8 0, .int .u8 0] (hp1_0 w2 _) hY.info (hz.size.trans hY.size.symm) hY.one ?_; rw [setRow_alloc_new _ _ _ _ _ _ rfl]) | (refine wpList_load_want rfl 23 _ rfl (w.heap.size + 1) rfl 23 u (0, 0) _ rp1' Tryd.underlying23 rfl hu.info ?_) | (refine wpList_store_row rfl 23 _ _ rfl (w2.heap.size + 1) u rfl rfl 23 #[.int .u8 0, .int .u8 0, .int .u8 0, .int .u8 0, .int .u8 0, .int .u8 0, .int .u8 0, .int .u8 0, .int .u8 0, .int .u8 0, .int .u8 0, .int .u8 0, .int .u8 0, .int .u8 0, .int .u8 0, .int .u8 0, .int .u8 0, .int .u8 0, .int .u8 0, .int .u8 0, .int .u8 0, .int .u8 0, .int .u8 0, .int .u8 0, .int .u8 0, .int .u8 0, .int .u8 0, .int .u8 0, .int .u8 0, .int .u8 0, .int .u8 0, .int .u8 0] (hp2_1 w2 _ _) hu.info (hz.size.trans hu.size.symm) hu.one ?_; rw [setRow_alloc_new _ _ _ _ _ _ (by simp)]) | (refine wpList_load_cell31 rfl 5 _ rfl (w2.heap.size + 1) 31 rfl (.int .u8 c31) (cell_of_row _ _ _ _ _ _ r6 |>.trans q31) Tryd.underlying5 ?_) | (refine wpList_store_cell31 rfl 5 _ _ rfl (w2.heap.size + 1) 31 rfl (.int .u8 (bits .xor .u8 c31 128)) rfl 23 u r6 (by rw [hu.size]; decide) (by kernel_rfl) rfl ?_) | fail)
  have r6' : (((w2.alloc (.cells (kb Y) 23)).alloc (.cells u 23)).setRow (w2.heap.size + 1) (u.setIfInBounds 31 (.int .u8 (bits .xor .u8 c31 128)))).heap[w2.heap.size + 1]? = some (.cells (u.setIfInBounds 31 (.int .u8 (bits .xor .u8 c31 128))) 23 (0, 0)) := setRow_heap _ _ _ _ _ _ r6
  rw [hu'e] at r6' ⊢
  have r5' := (setRow_other ((w2.alloc (.cells (kb Y) 23)).alloc (.cells u 23)) (w2.heap.size + 1) (w2.heap.size) u' (by omega)).trans r5
  replace rp0 := (setRow_other ((w2.alloc (.cells (kb Y) 23)).alloc (.cells u 23)) (w2.heap.size + 1) (w.heap.size) u' (by omega)).trans (keep hb rp0)
  replace rp1 := (setRow_other ((w2.alloc (.cells (kb Y) 23)).alloc (.cells u 23)) (w2.heap.size + 1) (w.heap.size + 1) u' (by omega)).trans (keep hb rp1)
  replace hw := below_setRow (Below.after hw hb) (show w.heap.size ≤ w2.heap.size + 1 by omega) u'
  replace f4 := (f4.below hb).setRow (show 0 < w2.heap.size + 1 by omega) u'
  generalize ((w2.alloc (.cells (kb Y) 23)).alloc (.cells u 23)).setRow (w2.heap.size + 1) u' = wb at *
  generalize w2.heap.size = g5 at *
  clear r5 r6 rp1' hb
  have Hrp0 := keepr rp0
  have Hrp1 := keepr rp1
  have Hr5' := keepr r5'
  have Hr6' := keepr r6'
  refine wp_region_quiet_below (by kernel_rfl) (by kernel_rfl) ?_
  refine wpQuiet_load_row rfl 23 _ rfl (w.heap.size) rfl 23 k (0, 0) _ Hrp0.out Tryd.underlying23 rfl hk.info ?_
  simp only [Act.put, List.setIfInBounds_toArray, List.set_cons_succ, List.set_cons_zero]
  go_big_quiet_step (exact cC.re)
  refine wpQuiet_load_row rfl 23 _ rfl (w.heap.size + 1) rfl 23 u (0, 0) _ Hrp1.out Tryd.underlying23 rfl hu.info ?_
  simp only [Act.put, List.setIfInBounds_toArray, List.set_cons_succ, List.set_cons_zero]
  go_big_quiet_step (exact s2.re f4)
  refine wpQuiet_load_row rfl 23 _ rfl (g5) rfl 23 (kb Y) (0, 0) _ Hr5'.out Tryd.underlying23 rfl hY.info ?_
  simp only [Act.put, List.setIfInBounds_toArray, List.set_cons_succ, List.set_cons_zero]
  go_big_quiet_step (fail)
  go_big_quiet_step (fail)
  refine wpQuiet_load_want rfl 23 _ rfl (w.heap.size) rfl 23 k (0, 0) _ Hrp0.out Tryd.underlying23 rfl hk.info ?_
  simp only [Act.put, List.setIfInBounds_toArray, List.set_cons_succ, List.set_cons_zero]
  refine wpQuiet_load_want rfl 23 _ rfl (g5 + 1) rfl 23 u' (0, 0) _ Hr6'.out Tryd.underlying23 rfl hu'.info ?_
  simp only [Act.put, List.setIfInBounds_toArray, List.set_cons_succ, List.set_cons_zero]
  go_big_quiet_step (exact s3.re f4)
  refine wpQuiet_load_want rfl 23 _ rfl (g5) rfl 23 (kb Y) (0, 0) _ Hr5'.out Tryd.underlying23 rfl hY.info ?_
  simp only [Act.put, List.setIfInBounds_toArray, List.set_cons_succ, List.set_cons_zero]
  go_big_quiet_step (fail)
  go_big_quiet_step (fail)
  go_big_quiet_step (fail)
  refine wpQuiet_load_want rfl 23 _ rfl (w.heap.size) rfl 23 k (0, 0) _ Hrp0.out Tryd.underlying23 rfl hk.info ?_
  simp only [Act.put, List.setIfInBounds_toArray, List.set_cons_succ, List.set_cons_zero]
  refine wpQuiet_load_want rfl 23 _ rfl (w.heap.size + 1) rfl 23 u (0, 0) _ Hrp1.out Tryd.underlying23 rfl hu.info ?_
  simp only [Act.put, List.setIfInBounds_toArray, List.set_cons_succ, List.set_cons_zero]
  go_big_quiet_step (exact cF.re)
  go_big_quiet_step (exact cB.re)
  go_big_quiet_step (exact s4.re f4)
  refine wpQuiet_load_want rfl 23 _ rfl (g5) rfl 23 (kb Y) (0, 0) _ Hr5'.out Tryd.underlying23 rfl hY.info ?_
  simp only [Act.put, List.setIfInBounds_toArray, List.set_cons_succ, List.set_cons_zero]
  go_big_quiet_step (fail)
  go_big_quiet_step (fail)
  go_big_quiet_step (fail)
  refine wpQuiet_load_want rfl 23 _ rfl (g5) rfl 23 (kb Y) (0, 0) _ Hr5'.out Tryd.underlying23 rfl hY.info ?_
  simp only [Act.put, List.setIfInBounds_toArray, List.set_cons_succ, List.set_cons_zero]
  go_big_quiet_step (exact cG.re)
  go_big_quiet_step (exact cD.re)
  refine wpQuiet_load_want rfl 23 _ rfl (g5) rfl 23 (kb Y) (0, 0) _ Hr5'.out Tryd.underlying23 rfl hY.info ?_
  simp only [Act.put, List.setIfInBounds_toArray, List.set_cons_succ, List.set_cons_zero]
  go_big_quiet_step (fail)
  go_big_quiet_step (fail)
  go_big_quiet_step (fail)
  refine wpQuiet_nil ?_
  rintro _ ⟨p, rfl⟩
  have hb := below_regrown wb p.d p.os
  generalize grow (redrawn wb p.d) p.os = w3 at *
  replace rp0 := keep hb rp0
  replace rp1 := keep hb rp1
  replace r5' := keep hb r5'
  replace r6' := keep hb r6'
  replace hw := Below.after hw hb
  replace f4 := f4.below hb
  clear hb
  clear Hrp0 Hrp1 Hr5' Hr6'
  go_wp2
  go_ret
  exact ⟨rfl, hw⟩

end Go.Proofs.YtdimjlbnjhopgaaDoor

