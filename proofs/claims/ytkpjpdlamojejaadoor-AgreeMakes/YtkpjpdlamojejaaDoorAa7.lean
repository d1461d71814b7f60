import Derived.Test.YtkpjpdlamojejaaDoorProg
import Derived.WalkKit
import Derived.WalkSpells
import Derived.WalkLawsBesides
import Derived.Lib.QuietBelow
import Derived.BigQuiet
import Derived.Test.YtkpjpdlamojejaaDoorKa
import Derived.Test.YtkpjpdlamojejaaDoorKim
import Derived.Test.YtkpjpdlamojejaaDoorCac
import Derived.Test.YtkpjpdlamojejaaDoorGao
import Derived.Test.YtkpjpdlamojejaaDoorAbe
import Derived.Test.YtkpjpdlamojejaaDoorRi
namespace Go.Proofs.YtkpjpdlamojejaaDoor.Lo
set_option maxRecDepth 100000
open Go.RowKit Go.Sort
attribute [local go_sem] setCell_drewN alloc_drewN


theorem b_add {r s : Array Value} {x y : Int} (h : NumOf r x) (g : NumOf s y) : ∃ t, NumOf t ((x + y) % prm) ∧ Gives 46 #[.agg r, .agg s] (.agg t) :=
  let ⟨t, ht, c⟩ := a_add h g; ⟨t, ht.congr (Int.emod_emod _ _).symm, c⟩
theorem b_sub {r s : Array Value} {x y : Int} (h : NumOf r x) (g : NumOf s y) : ∃ t, NumOf t ((x - y) % prm) ∧ Gives4 47 #[.agg r, .agg s] (.agg t) :=
  let ⟨t, ht, c⟩ := a_sub h g; ⟨t, ht.congr (Int.emod_emod _ _).symm, c⟩
theorem b_mul {r s : Array Value} {x y : Int} (h : NumOf r x) (g : NumOf s y) : ∃ t, NumOf t (x * y % prm) ∧ Gives 33 #[.agg r, .agg s] (.agg t) :=
  let ⟨t, ht, c⟩ := a_mul h g; ⟨t, ht.congr (Int.emod_emod _ _).symm, c⟩
theorem b_square {r : Array Value} {x : Int} (h : NumOf r x) : ∃ t, NumOf t (x * x % prm) ∧ Gives 48 #[.agg r] (.agg t) :=
  let ⟨t, ht, c⟩ := a_square h; ⟨t, ht.congr (Int.emod_emod _ _).symm, c⟩
theorem b_times {r : Array Value} {x : Int} (h : NumOf r x) (m : Int) (l : 0 ≤ m) (u : m < 4294967296) : ∃ t, NumOf t (m * x % prm) ∧ Gives 49 #[.agg r, .int .u32 m] (.agg t) :=
  let ⟨t, ht, c⟩ := a_times h m l u; ⟨t, ht.congr (by rw [Int.mul_comm, Int.emod_emod]), c⟩
theorem nums_size {a b c d : Array Value} (ha : a.size = 5) (hb : b.size = 5) (hc : c.size = 5) (hd : d.size = 5) : (r4 a b c d).size = 20 := by rw [r4_size, ha, hb, hc, hd]
theorem refs_size {a b c d : Array Value} (ha : a.size = 16) (hb : b.size = 16) (hc : c.size = 16) (hd : d.size = 16) : (r4 a b c d).size = 64 := by rw [r4_size, ha, hb, hc, hd]
theorem rung_info : (Tryd.prog.info? 75).map (·.size) = some 20 := by kernel_rfl
theorem nums_info {a b c d : Array Value} (ha : a.size = 5) (hb : b.size = 5) (hc : c.size = 5) (hd : d.size = 5) : (Tryd.prog.info? 75).map (·.size) = some (r4 a b c d).size := by rw [nums_size ha hb hc hd]; exact rung_info
theorem nums_built {a b c d : Array Value} (ha : a.size = 5) (hb : b.size = 5) (hc : c.size = 5) (hd : d.size = 5) : Tryd.prog.built 75 [(0, .agg a), (1, .agg b), (2, .agg c), (3, .agg d)] = some (r4 a b c d) := by
  obtain ⟨_, _, _, _, _, rfl⟩ := five ha
  obtain ⟨_, _, _, _, _, rfl⟩ := five hb
  obtain ⟨_, _, _, _, _, rfl⟩ := five hc
  obtain ⟨_, _, _, _, _, rfl⟩ := five hd
  kernel_rfl
theorem nums_built3 {a c d : Array Value} (ha : a.size = 5) (hc : c.size = 5) (hd : d.size = 5) : Tryd.prog.built 75 [(0, .agg a), (2, .agg c), (3, .agg d)] = some (r4 a #[.int .u64 0, .int .u64 0, .int .u64 0, .int .u64 0, .int .u64 0] c d) := by
  obtain ⟨_, _, _, _, _, rfl⟩ := five ha
  obtain ⟨_, _, _, _, _, rfl⟩ := five hc
  obtain ⟨_, _, _, _, _, rfl⟩ := five hd
  kernel_rfl
theorem ovw_0 {a b c d x : Array Value} (ha : a.size = 5) (hb : b.size = 5) (hc : c.size = 5) (hd : d.size = 5) (hx : x.size = 5) : ovw (r4 a b c d) 0 x.toList = r4 x b c d := by
  obtain ⟨_, _, _, _, _, rfl⟩ := five ha
  obtain ⟨_, _, _, _, _, rfl⟩ := five hb
  obtain ⟨_, _, _, _, _, rfl⟩ := five hc
  obtain ⟨_, _, _, _, _, rfl⟩ := five hd
  obtain ⟨_, _, _, _, _, rfl⟩ := five hx
  kernel_rfl
theorem ovw_1 {a b c d x : Array Value} (ha : a.size = 5) (hb : b.size = 5) (hc : c.size = 5) (hd : d.size = 5) (hx : x.size = 5) : ovw (r4 a b c d) 5 x.toList = r4 a x c d := by
  obtain ⟨_, _, _, _, _, rfl⟩ := five ha
  obtain ⟨_, _, _, _, _, rfl⟩ := five hb
  obtain ⟨_, _, _, _, _, rfl⟩ := five hc
  obtain ⟨_, _, _, _, _, rfl⟩ := five hd
  obtain ⟨_, _, _, _, _, rfl⟩ := five hx
  kernel_rfl
theorem ovw_2 {a b c d x : Array Value} (ha : a.size = 5) (hb : b.size = 5) (hc : c.size = 5) (hd : d.size = 5) (hx : x.size = 5) : ovw (r4 a b c d) 10 x.toList = r4 a b x d := by
  obtain ⟨_, _, _, _, _, rfl⟩ := five ha
  obtain ⟨_, _, _, _, _, rfl⟩ := five hb
  obtain ⟨_, _, _, _, _, rfl⟩ := five hc
  obtain ⟨_, _, _, _, _, rfl⟩ := five hd
  obtain ⟨_, _, _, _, _, rfl⟩ := five hx
  kernel_rfl
theorem ovw_3 {a b c d x : Array Value} (ha : a.size = 5) (hb : b.size = 5) (hc : c.size = 5) (hd : d.size = 5) (hx : x.size = 5) : ovw (r4 a b c d) 15 x.toList = r4 a b c x := by
  obtain ⟨_, _, _, _, _, rfl⟩ := five ha
  obtain ⟨_, _, _, _, _, rfl⟩ := five hb
  obtain ⟨_, _, _, _, _, rfl⟩ := five hc
  obtain ⟨_, _, _, _, _, rfl⟩ := five hd
  obtain ⟨_, _, _, _, _, rfl⟩ := five hx
  kernel_rfl
theorem p_0 {a b c d : Array Value} : (r4 a b c d).extract 0 (0 + a.size) = a := r4_get0 rfl
theorem p5_1 {a b c d : Array Value} (ha : a.size = 5) : (r4 a b c d).extract 5 (5 + b.size) = b := r4_get1 ha.symm
theorem p5_2 {a b c d : Array Value} (ha : a.size = 5) (hb : b.size = 5) : (r4 a b c d).extract 10 (10 + c.size) = c := r4_get2 (by omega)
theorem p5_3 {a b c d : Array Value} (ha : a.size = 5) (hb : b.size = 5) (hc : c.size = 5) : (r4 a b c d).extract 15 (15 + d.size) = d := r4_get3 (by omega)
theorem p16_1 {a b c d : Array Value} (ha : a.size = 16) : (r4 a b c d).extract 16 (16 + b.size) = b := r4_get1 ha.symm
theorem p16_2 {a b c d : Array Value} (ha : a.size = 16) (hb : b.size = 16) : (r4 a b c d).extract 32 (32 + c.size) = c := r4_get2 (by omega)
theorem p16_3 {a b c d : Array Value} (ha : a.size = 16) (hb : b.size = 16) (hc : c.size = 16) : (r4 a b c d).extract 48 (48 + d.size) = d := r4_get3 (by omega)

end Go.Proofs.YtkpjpdlamojejaaDoor.Lo


namespace Go.Proofs.YtkpjpdlamojejaaDoor.Lo
set_option maxRecDepth 100000
open Go.RowKit Go.Sort
attribute [local go_sem] setCell_drewN alloc_drewN


set_option maxRecDepth 100000 in
set_option maxHeartbeats 8000000 in
theorem up_walk {ra rb rc rd' xr : Array Value} {A B C D X : Int} (ha : NumOf ra A) (hb : NumOf rb B) (hc : NumOf rc C) (hd : NumOf rd' D) (hx : NumOf xr X) :
    ∃ pa pb pc pd, NumOf pa (stp X ⟨A, B, C, D⟩).a ∧ NumOf pb (stp X ⟨A, B, C, D⟩).b ∧ NumOf pc (stp X ⟨A, B, C, D⟩).c ∧ NumOf pd (stp X ⟨A, B, C, D⟩).d ∧ Gives4 32 #[.agg (r4 ra rb rc rd'), .agg xr] (.agg (r4 pa pb pc pd)) := by
  obtain ⟨x2, h2, c2⟩ := b_add ha hb
  obtain ⟨x3, h3, c3⟩ := b_sub ha hb
  obtain ⟨x8, h8, c8⟩ := b_add hc hd
  obtain ⟨x9, h9, c9⟩ := b_sub hc hd
  obtain ⟨x14, h14, c14⟩ := b_square h2
  obtain ⟨x15, h15, c15⟩ := b_square h3
  obtain ⟨x19, h19, c19⟩ := b_sub h14 h15
  obtain ⟨x22, h22, c22⟩ := b_mul h9 h2
  obtain ⟨x23, h23, c23⟩ := b_mul h8 h3
  obtain ⟨x27, h27, c27⟩ := b_mul h14 h15
  obtain ⟨x28, h28, c28⟩ := b_times h19 121665 (by decide) (by decide)
  obtain ⟨x29, h29, c29⟩ := b_add h14 h28
  obtain ⟨x30, h30, c30⟩ := b_mul h19 h29
  obtain ⟨x31, h31, c31⟩ := b_add h22 h23
  obtain ⟨x32, h32, c32⟩ := b_square h31
  obtain ⟨x33, h33, c33⟩ := b_sub h22 h23
  obtain ⟨x34, h34, c34⟩ := b_square h33
  obtain ⟨x35, h35, c35⟩ := b_mul hx h34
  refine ⟨x27, x30, x32, x35, h27, h30, h32, h35, fun w hF => ?_⟩
  go_enter Tryd.func32, Tryd.ntmps32
  go_wp2
  have rp0 : (((w.alloc (.cells (r4 ra rb rc rd') 75)).alloc (.cells xr 60)).alloc (.cells #[.int .u64 0, .int .u64 0, .int .u64 0, .int .u64 0, .int .u64 0, .int .u64 0, .int .u64 0, .int .u64 0, .int .u64 0, .int .u64 0, .int .u64 0, .int .u64 0, .int .u64 0, .int .u64 0, .int .u64 0, .int .u64 0, .int .u64 0, .int .u64 0, .int .u64 0, .int .u64 0] 75)).heap[w.heap.size]? = some (.cells (r4 ra rb rc rd') 75 (0, 0)) := hp3_0 w _ _ _
  have rp1 : (((w.alloc (.cells (r4 ra rb rc rd') 75)).alloc (.cells xr 60)).alloc (.cells #[.int .u64 0, .int .u64 0, .int .u64 0, .int .u64 0, .int .u64 0, .int .u64 0, .int .u64 0, .int .u64 0, .int .u64 0, .int .u64 0, .int .u64 0, .int .u64 0, .int .u64 0, .int .u64 0, .int .u64 0, .int .u64 0, .int .u64 0, .int .u64 0, .int .u64 0, .int .u64 0] 75)).heap[w.heap.size + 1]? = some (.cells xr 60 (0, 0)) := hp3_1 w _ _ _
  have rp2 : (((w.alloc (.cells (r4 ra rb rc rd') 75)).alloc (.cells xr 60)).alloc (.cells #[.int .u64 0, .int .u64 0, .int .u64 0, .int .u64 0, .int .u64 0, .int .u64 0, .int .u64 0, .int .u64 0, .int .u64 0, .int .u64 0, .int .u64 0, .int .u64 0, .int .u64 0, .int .u64 0, .int .u64 0, .int .u64 0, .int .u64 0, .int .u64 0, .int .u64 0, .int .u64 0] 75)).heap[w.heap.size + 1 + 1]? = some (.cells #[.int .u64 0, .int .u64 0, .int .u64 0, .int .u64 0, .int .u64 0, .int .u64 0, .int .u64 0, .int .u64 0, .int .u64 0, .int .u64 0, .int .u64 0, .int .u64 0, .int .u64 0, .int .u64 0, .int .u64 0, .int .u64 0, .int .u64 0, .int .u64 0, .int .u64 0, .int .u64 0] 75 (0, 0)) := hp3_2 w _ _ _
  have hw : Below w.heap.size w (((w.alloc (.cells (r4 ra rb rc rd') 75)).alloc (.cells xr 60)).alloc (.cells #[.int .u64 0, .int .u64 0, .int .u64 0, .int .u64 0, .int .u64 0, .int .u64 0, .int .u64 0, .int .u64 0, .int .u64 0, .int .u64 0, .int .u64 0, .int .u64 0, .int .u64 0, .int .u64 0, .int .u64 0, .int .u64 0, .int .u64 0, .int .u64 0, .int .u64 0, .int .u64 0] 75)) := ((((Below.refl _ _).alloc (Nat.le_refl _) _).alloc (by simp) _).alloc (by simp; omega) _)
  have hz0 := hF.1
  have f4 : Four (((w.alloc (.cells (r4 ra rb rc rd') 75)).alloc (.cells xr 60)).alloc (.cells #[.int .u64 0, .int .u64 0, .int .u64 0, .int .u64 0, .int .u64 0, .int .u64 0, .int .u64 0, .int .u64 0, .int .u64 0, .int .u64 0, .int .u64 0, .int .u64 0, .int .u64 0, .int .u64 0, .int .u64 0, .int .u64 0, .int .u64 0, .int .u64 0, .int .u64 0, .int .u64 0] 75)) := (((hF.alloc _).alloc _).alloc _)
  generalize (((w.alloc (.cells (r4 ra rb rc rd') 75)).alloc (.cells xr 60)).alloc (.cells #[.int .u64 0, .int .u64 0, .int .u64 0, .int .u64 0, .int .u64 0, .int .u64 0, .int .u64 0, .int .u64 0, .int .u64 0, .int .u64 0, .int .u64 0, .int .u64 0, .int .u64 0, .int .u64 0, .int .u64 0, .int .u64 0, .int .u64 0, .int .u64 0, .int .u64 0, .int .u64 0] 75)) = w0 at *
  refine wp_region_alloc_ex 10 12 [5, 6] (fun _ => .cells #[.int .u64 0, .int .u64 0, .int .u64 0, .int .u64 0, .int .u64 0] 60 (0, 0)) (by kernel_rfl) (by decide) (by decide) (by kernel_rfl) (by kernel_rfl) (by kernel_rfl) (by kernel_rfl) (by kernel_rfl) (by kernel_rfl) (by kernel_rfl) (by kernel_rfl) (by decide) (by decide) ?_ ?_
  · intro s l u
    rcases (by omega : s = 10 ∨ s = 11) with rfl | rfl <;> exact ⟨_, _, rfl, rfl, rfl, rfl, fun a w => by kernel_rfl⟩
  apply Exists.intro
  constructor
  · intro v1 hb
    have Hrp0 := keepr (keep hb rp0)
    have Hrp1 := keepr (keep hb rp1)
    have Hrp2 := keepr (keep hb rp2)
    have F4 := f4.below hb
    clear hb; dsimp only [List.take]
    go_big_quiet_step (fail)
    refine wpQuiet_load_part rfl 60 _ rfl (w.heap.size) 0 rfl 75 (r4 ra rb rc rd') (0, 0) ra _ Hrp0.out p_0 Tryd.underlying60 rfl ha.info ?_
    simp only [Act.put, List.setIfInBounds_toArray, List.set_cons_succ, List.set_cons_zero]
    go_big_quiet_step (fail)
    refine wpQuiet_load_part rfl 60 _ rfl (w.heap.size) 5 rfl 75 (r4 ra rb rc rd') (0, 0) rb _ Hrp0.out (p5_1 ha.size) Tryd.underlying60 rfl hb.info ?_
    simp only [Act.put, List.setIfInBounds_toArray, List.set_cons_succ, List.set_cons_zero]
    go_big_quiet_step (exact c2.re)
    go_big_quiet_step (fail)
    refine wpQuiet_load_part rfl 60 _ rfl (w.heap.size) 0 rfl 75 (r4 ra rb rc rd') (0, 0) ra _ Hrp0.out p_0 Tryd.underlying60 rfl ha.info ?_
    simp only [Act.put, List.setIfInBounds_toArray, List.set_cons_succ, List.set_cons_zero]
    go_big_quiet_step (fail)
    refine wpQuiet_load_part rfl 60 _ rfl (w.heap.size) 5 rfl 75 (r4 ra rb rc rd') (0, 0) rb _ Hrp0.out (p5_1 ha.size) Tryd.underlying60 rfl hb.info ?_
    simp only [Act.put, List.setIfInBounds_toArray, List.set_cons_succ, List.set_cons_zero]
    go_big_quiet_step (exact c3.re F4)
    refine wpQuiet_nil ?_
    rfl
  intro w4 g hb hg hd
  obtain ⟨lg5, rg5⟩ := hg 5 (by simp)
  replace rg5 : w4.heap[g 5]? = some (.cells #[.int .u64 0, .int .u64 0, .int .u64 0, .int .u64 0, .int .u64 0] 60 (0, 0)) := rg5
  obtain ⟨lg6, rg6⟩ := hg 6 (by simp)
  replace rg6 : w4.heap[g 6]? = some (.cells #[.int .u64 0, .int .u64 0, .int .u64 0, .int .u64 0, .int .u64 0] 60 (0, 0)) := rg6
  simp only [List.drop, puts, ptrs, List.map, List.foldl, Act.put, List.setIfInBounds_toArray, List.set_cons_succ, List.set_cons_zero]
  have d6_5 := hd 6 (by simp) 5 (by simp) (by decide)
  clear hg hd
  generalize g 5 = ge at *
  generalize g 6 = gf at *
  have lrp0 := lt_of_row rp0
  have lrp1 := lt_of_row rp1
  have lrp2 := lt_of_row rp2
  have hs := hw.size
  have hz := f4.1
  replace rp0 := keep hb rp0
  replace rp1 := keep hb rp1
  replace rp2 := keep hb rp2
  replace hw := Below.after hw hb
  replace f4 := f4.below hb
  clear hb
  refine wpList_store_row rfl 60 _ _ rfl ge x2 rfl rfl 60 _ rg5 h2.info (h2.fits rfl) h2.one ?_
  simp only [Act.put]
  replace rp0 := (setRow_other w4 ge (w.heap.size) x2 (by omega)).trans rp0
  replace rp1 := (setRow_other w4 ge (w.heap.size + 1) x2 (by omega)).trans rp1
  replace rp2 := (setRow_other w4 ge (w.heap.size + 1 + 1) x2 (by omega)).trans rp2
  replace rg5 := setRow_heap w4 ge _ x2 _ _ rg5
  replace rg6 := (setRow_other w4 ge gf x2 (by omega)).trans rg6
  replace hw := below_setRow hw (show w.heap.size ≤ ge by omega) x2
  replace f4 := f4.setRow (show 1 < ge by omega) x2
  generalize w4.setRow ge x2 = w5 at *
  refine wpList_store_row rfl 60 _ _ rfl gf x3 rfl rfl 60 _ rg6 h3.info (h3.fits rfl) h3.one ?_
  simp only [Act.put]
  replace rp0 := (setRow_other w5 gf (w.heap.size) x3 (by omega)).trans rp0
  replace rp1 := (setRow_other w5 gf (w.heap.size + 1) x3 (by omega)).trans rp1
  replace rp2 := (setRow_other w5 gf (w.heap.size + 1 + 1) x3 (by omega)).trans rp2
  replace rg5 := (setRow_other w5 gf ge x3 (by omega)).trans rg5
  replace rg6 := setRow_heap w5 gf _ x3 _ _ rg6
  replace hw := below_setRow hw (show w.heap.size ≤ gf by omega) x3
  replace f4 := f4.setRow (show 1 < gf by omega) x3
  generalize w5.setRow gf x3 = w6 at *
  have yge_0 : w.heap.size < ge := by omega
  have yge_1 : w.heap.size + 1 < ge := by omega
  have yge_2 : w.heap.size + 1 + 1 < ge := by omega
  have yge : w.heap.size ≤ ge := by omega
  have zge : 1 < ge := by omega
  have ygf_0 : w.heap.size < gf := by omega
  have ygf_1 : w.heap.size + 1 < gf := by omega
  have ygf_2 : w.heap.size + 1 + 1 < gf := by omega
  have ygf : w.heap.size ≤ gf := by omega
  have zgf : 1 < gf := by omega
  clear hs hz lrp0 lrp1 lrp2 lg5 lg6
  go_wp2
  refine wp_region_alloc_ex 10 12 [7, 8] (fun _ => .cells #[.int .u64 0, .int .u64 0, .int .u64 0, .int .u64 0, .int .u64 0] 60 (0, 0)) (by kernel_rfl) (by decide) (by decide) (by kernel_rfl) (by kernel_rfl) (by kernel_rfl) (by kernel_rfl) (by kernel_rfl) (by kernel_rfl) (by kernel_rfl) (by kernel_rfl) (by decide) (by decide) ?_ ?_
  · intro s l u
    rcases (by omega : s = 10 ∨ s = 11) with rfl | rfl <;> exact ⟨_, _, rfl, rfl, rfl, rfl, fun a w => by kernel_rfl⟩
  apply Exists.intro
  constructor
  · intro v7 hb
    have Hrp0 := keepr (keep hb rp0)
    have Hrp1 := keepr (keep hb rp1)
    have Hrp2 := keepr (keep hb rp2)
    have Hrg5 := keepr (keep hb rg5)
    have Hrg6 := keepr (keep hb rg6)
    have F4 := f4.below hb
    clear hb; dsimp only [List.take]
    go_big_quiet_step (fail)
    refine wpQuiet_load_part rfl 60 _ rfl (w.heap.size) 10 rfl 75 (r4 ra rb rc rd') (0, 0) rc _ Hrp0.out (p5_2 ha.size hb.size) Tryd.underlying60 rfl hc.info ?_
    simp only [Act.put, List.setIfInBounds_toArray, List.set_cons_succ, List.set_cons_zero]
    go_big_quiet_step (fail)
    refine wpQuiet_load_part rfl 60 _ rfl (w.heap.size) 15 rfl 75 (r4 ra rb rc rd') (0, 0) rd' _ Hrp0.out (p5_3 ha.size hb.size hc.size) Tryd.underlying60 rfl hd.info ?_
    simp only [Act.put, List.setIfInBounds_toArray, List.set_cons_succ, List.set_cons_zero]
    go_big_quiet_step (exact c8.re)
    go_big_quiet_step (fail)
    refine wpQuiet_load_part rfl 60 _ rfl (w.heap.size) 10 rfl 75 (r4 ra rb rc rd') (0, 0) rc _ Hrp0.out (p5_2 ha.size hb.size) Tryd.underlying60 rfl hc.info ?_
    simp only [Act.put, List.setIfInBounds_toArray, List.set_cons_succ, List.set_cons_zero]
    go_big_quiet_step (fail)
    refine wpQuiet_load_part rfl 60 _ rfl (w.heap.size) 15 rfl 75 (r4 ra rb rc rd') (0, 0) rd' _ Hrp0.out (p5_3 ha.size hb.size hc.size) Tryd.underlying60 rfl hd.info ?_
    simp only [Act.put, List.setIfInBounds_toArray, List.set_cons_succ, List.set_cons_zero]
    go_big_quiet_step (exact c9.re F4)
    refine wpQuiet_nil ?_
    rfl
  intro w10 g hb hg hd
  obtain ⟨lg7, rg7⟩ := hg 7 (by simp)
  replace rg7 : w10.heap[g 7]? = some (.cells #[.int .u64 0, .int .u64 0, .int .u64 0, .int .u64 0, .int .u64 0] 60 (0, 0)) := rg7
  obtain ⟨lg8, rg8⟩ := hg 8 (by simp)
  replace rg8 : w10.heap[g 8]? = some (.cells #[.int .u64 0, .int .u64 0, .int .u64 0, .int .u64 0, .int .u64 0] 60 (0, 0)) := rg8
  simp only [List.drop, puts, ptrs, List.map, List.foldl, Act.put, List.setIfInBounds_toArray, List.set_cons_succ, List.set_cons_zero]
  have d8_7 := hd 8 (by simp) 7 (by simp) (by decide)
  clear hg hd
  generalize g 7 = gg at *
  generalize g 8 = gh at *
  have lrp0 := lt_of_row rp0
  have lrp1 := lt_of_row rp1
  have lrp2 := lt_of_row rp2
  have lrg5 := lt_of_row rg5
  have lrg6 := lt_of_row rg6
  have hs := hw.size
  have hz := f4.1
  replace rp0 := keep hb rp0
  replace rp1 := keep hb rp1
  replace rp2 := keep hb rp2
  replace rg5 := keep hb rg5
  replace rg6 := keep hb rg6
  replace hw := Below.after hw hb
  replace f4 := f4.below hb
  clear hb
  refine wpList_store_row rfl 60 _ _ rfl gg x8 rfl rfl 60 _ rg7 h8.info (h8.fits rfl) h8.one ?_
  simp only [Act.put]
  replace rp0 := (setRow_other w10 gg (w.heap.size) x8 (by omega)).trans rp0
  replace rp1 := (setRow_other w10 gg (w.heap.size + 1) x8 (by omega)).trans rp1
  replace rp2 := (setRow_other w10 gg (w.heap.size + 1 + 1) x8 (by omega)).trans rp2
  replace rg5 := (setRow_other w10 gg (ge) x8 (by omega)).trans rg5
  replace rg6 := (setRow_other w10 gg (gf) x8 (by omega)).trans rg6
  replace rg7 := setRow_heap w10 gg _ x8 _ _ rg7
  replace rg8 := (setRow_other w10 gg gh x8 (by omega)).trans rg8
  replace hw := below_setRow hw (show w.heap.size ≤ gg by omega) x8
  replace f4 := f4.setRow (show 1 < gg by omega) x8
  generalize w10.setRow gg x8 = w11 at *
  refine wpList_store_row rfl 60 _ _ rfl gh x9 rfl rfl 60 _ rg8 h9.info (h9.fits rfl) h9.one ?_
  simp only [Act.put]
  replace rp0 := (setRow_other w11 gh (w.heap.size) x9 (by omega)).trans rp0
  replace rp1 := (setRow_other w11 gh (w.heap.size + 1) x9 (by omega)).trans rp1
  replace rp2 := (setRow_other w11 gh (w.heap.size + 1 + 1) x9 (by omega)).trans rp2
  replace rg5 := (setRow_other w11 gh (ge) x9 (by omega)).trans rg5
  replace rg6 := (setRow_other w11 gh (gf) x9 (by omega)).trans rg6
  replace rg7 := (setRow_other w11 gh gg x9 (by omega)).trans rg7
  replace rg8 := setRow_heap w11 gh _ x9 _ _ rg8
  replace hw := below_setRow hw (show w.heap.size ≤ gh by omega) x9
  replace f4 := f4.setRow (show 1 < gh by omega) x9
  generalize w11.setRow gh x9 = w12 at *
  have ygg_0 : w.heap.size < gg := by omega
  have ygg_1 : w.heap.size + 1 < gg := by omega
  have ygg_2 : w.heap.size + 1 + 1 < gg := by omega
  have ygg_3 : ge < gg := by omega
  have ygg_4 : gf < gg := by omega
  have ygg : w.heap.size ≤ gg := by omega
  have zgg : 1 < gg := by omega
  have ygh_0 : w.heap.size < gh := by omega
  have ygh_1 : w.heap.size + 1 < gh := by omega
  have ygh_2 : w.heap.size + 1 + 1 < gh := by omega
  have ygh_3 : ge < gh := by omega
  have ygh_4 : gf < gh := by omega
  have ygh : w.heap.size ≤ gh := by omega
  have zgh : 1 < gh := by omega
  clear hs hz lrp0 lrp1 lrp2 lrg5 lrg6 lg7 lg8
  go_wp2
  refine wp_region_alloc_ex 4 6 [9, 10] (fun _ => .cells #[.int .u64 0, .int .u64 0, .int .u64 0, .int .u64 0, .int .u64 0] 60 (0, 0)) (by kernel_rfl) (by decide) (by decide) (by kernel_rfl) (by kernel_rfl) (by kernel_rfl) (by kernel_rfl) (by kernel_rfl) (by kernel_rfl) (by kernel_rfl) (by kernel_rfl) (by decide) (by decide) ?_ ?_
  · intro s l u
    rcases (by omega : s = 4 ∨ s = 5) with rfl | rfl <;> exact ⟨_, _, rfl, rfl, rfl, rfl, fun a w => by kernel_rfl⟩
  apply Exists.intro
  constructor
  · intro v13 hb
    have Hrp0 := keepr (keep hb rp0)
    have Hrp1 := keepr (keep hb rp1)
    have Hrp2 := keepr (keep hb rp2)
    have Hrg5 := keepr (keep hb rg5)
    have Hrg6 := keepr (keep hb rg6)
    have Hrg7 := keepr (keep hb rg7)
    have Hrg8 := keepr (keep hb rg8)
    have F4 := f4.below hb
    clear hb; dsimp only [List.take]
    refine wpQuiet_load_row rfl 60 _ rfl (ge) rfl 60 x2 (0, 0) _ Hrg5.out Tryd.underlying60 rfl h2.info ?_
    simp only [Act.put, List.setIfInBounds_toArray, List.set_cons_succ, List.set_cons_zero]
    go_big_quiet_step (exact c14.re)
    refine wpQuiet_load_row rfl 60 _ rfl (gf) rfl 60 x3 (0, 0) _ Hrg6.out Tryd.underlying60 rfl h3.info ?_
    simp only [Act.put, List.setIfInBounds_toArray, List.set_cons_succ, List.set_cons_zero]
    go_big_quiet_step (exact c15.re)
    refine wpQuiet_nil ?_
    rfl
  intro w16 g hb hg hd
  obtain ⟨lg9, rg9⟩ := hg 9 (by simp)
  replace rg9 : w16.heap[g 9]? = some (.cells #[.int .u64 0, .int .u64 0, .int .u64 0, .int .u64 0, .int .u64 0] 60 (0, 0)) := rg9
  obtain ⟨lg10, rg10⟩ := hg 10 (by simp)
  replace rg10 : w16.heap[g 10]? = some (.cells #[.int .u64 0, .int .u64 0, .int .u64 0, .int .u64 0, .int .u64 0] 60 (0, 0)) := rg10
  simp only [List.drop, puts, ptrs, List.map, List.foldl, Act.put, List.setIfInBounds_toArray, List.set_cons_succ, List.set_cons_zero]
  have d10_9 := hd 10 (by simp) 9 (by simp) (by decide)
  clear hg hd
  generalize g 9 = gy at *
  generalize g 10 = gz at *
  have lrp0 := lt_of_row rp0
  have lrp1 := lt_of_row rp1
  have lrp2 := lt_of_row rp2
  have lrg5 := lt_of_row rg5
  have lrg6 := lt_of_row rg6
  have lrg7 := lt_of_row rg7
  have lrg8 := lt_of_row rg8
  have hs := hw.size
  have hz := f4.1
  replace rp0 := keep hb rp0
  replace rp1 := keep hb rp1
  replace rp2 := keep hb rp2
  replace rg5 := keep hb rg5
  replace rg6 := keep hb rg6
  replace rg7 := keep hb rg7
  replace rg8 := keep hb rg8
  replace hw := Below.after hw hb
  replace f4 := f4.below hb
  clear hb
  refine wpList_store_row rfl 60 _ _ rfl gy x14 rfl rfl 60 _ rg9 h14.info (h14.fits rfl) h14.one ?_
  simp only [Act.put]
  replace rp0 := (setRow_other w16 gy (w.heap.size) x14 (by omega)).trans rp0
  replace rp1 := (setRow_other w16 gy (w.heap.size + 1) x14 (by omega)).trans rp1
  replace rp2 := (setRow_other w16 gy (w.heap.size + 1 + 1) x14 (by omega)).trans rp2
  replace rg5 := (setRow_other w16 gy (ge) x14 (by omega)).trans rg5
  replace rg6 := (setRow_other w16 gy (gf) x14 (by omega)).trans rg6
  replace rg7 := (setRow_other w16 gy (gg) x14 (by omega)).trans rg7
  replace rg8 := (setRow_other w16 gy (gh) x14 (by omega)).trans rg8
  replace rg9 := setRow_heap w16 gy _ x14 _ _ rg9
  replace rg10 := (setRow_other w16 gy gz x14 (by omega)).trans rg10
  replace hw := below_setRow hw (show w.heap.size ≤ gy by omega) x14
  replace f4 := f4.setRow (show 1 < gy by omega) x14
  generalize w16.setRow gy x14 = w17 at *
  refine wpList_store_row rfl 60 _ _ rfl gz x15 rfl rfl 60 _ rg10 h15.info (h15.fits rfl) h15.one ?_
  simp only [Act.put]
  replace rp0 := (setRow_other w17 gz (w.heap.size) x15 (by omega)).trans rp0
  replace rp1 := (setRow_other w17 gz (w.heap.size + 1) x15 (by omega)).trans rp1
  replace rp2 := (setRow_other w17 gz (w.heap.size + 1 + 1) x15 (by omega)).trans rp2
  replace rg5 := (setRow_other w17 gz (ge) x15 (by omega)).trans rg5
  replace rg6 := (setRow_other w17 gz (gf) x15 (by omega)).trans rg6
  replace rg7 := (setRow_other w17 gz (gg) x15 (by omega)).trans rg7
  replace rg8 := (setRow_other w17 gz (gh) x15 (by omega)).trans rg8
  replace rg9 := (setRow_other w17 gz gy x15 (by omega)).trans rg9
  replace rg10 := setRow_heap w17 gz _ x15 _ _ rg10
  replace hw := below_setRow hw (show w.heap.size ≤ gz by omega) x15
  replace f4 := f4.setRow (show 1 < gz by omega) x15
  generalize w17.setRow gz x15 = w18 at *
  have ygy_0 : w.heap.size < gy := by omega
  have ygy_1 : w.heap.size + 1 < gy := by omega
  have ygy_2 : w.heap.size + 1 + 1 < gy := by omega
  have ygy_3 : ge < gy := by omega
  have ygy_4 : gf < gy := by omega
  have ygy_5 : gg < gy := by omega
  have ygy_6 : gh < gy := by omega
  have ygy : w.heap.size ≤ gy := by omega
  have zgy : 1 < gy := by omega
  have ygz_0 : w.heap.size < gz := by omega
  have ygz_1 : w.heap.size + 1 < gz := by omega
  have ygz_2 : w.heap.size + 1 + 1 < gz := by omega
  have ygz_3 : ge < gz := by omega
  have ygz_4 : gf < gz := by omega
  have ygz_5 : gg < gz := by omega
  have ygz_6 : gh < gz := by omega
  have ygz : w.heap.size ≤ gz := by omega
  have zgz : 1 < gz := by omega
  clear hs hz lrp0 lrp1 lrp2 lrg5 lrg6 lrg7 lrg8 lg9 lg10
  go_wp2_with (first | (refine wpList_load_want rfl 75 _ rfl (w.heap.size) rfl 75 (r4 ra rb rc rd') (0, 0) _ rp0 Tryd.underlying75 rfl (nums_info ha.size hb.size hc.size hd.size) ?_) | (refine wpList_load_want rfl 60 _ rfl (w.heap.size + 1) rfl 60 xr (0, 0) _ rp1 Tryd.underlying60 rfl hx.info ?_) | (refine wpList_load_want rfl 75 _ rfl (w.heap.size + 1 + 1) rfl 75 #[.int .u64 0, .int .u64 0, .int .u64 0, .int .u64 0, .int .u64 0, .int .u64 0, .int .u64 0, .int .u64 0, .int .u64 0, .int .u64 0, .int .u64 0, .int .u64 0, .int .u64 0, .int .u64 0, .int .u64 0, .int .u64 0, .int .u64 0, .int .u64 0, .int .u64 0, .int .u64 0] (0, 0) _ rp2 Tryd.underlying75 rfl (by kernel_rfl) ?_) | (refine wpList_load_want rfl 60 _ rfl (ge) rfl 60 x2 (0, 0) _ rg5 Tryd.underlying60 rfl h2.info ?_) | (refine wpList_load_want rfl 60 _ rfl (gf) rfl 60 x3 (0, 0) _ rg6 Tryd.underlying60 rfl h3.info ?_) | (refine wpList_load_want rfl 60 _ rfl (gg) rfl 60 x8 (0, 0) _ rg7 Tryd.underlying60 rfl h8.info ?_) | (refine wpList_load_want rfl 60 _ rfl (gh) rfl 60 x9 (0, 0) _ rg8 Tryd.underlying60 rfl h9.info ?_) | (refine wpList_load_want rfl 60 _ rfl (gy) rfl 60 x14 (0, 0) _ rg9 Tryd.underlying60 rfl h14.info ?_) | (refine wpList_load_want rfl 60 _ rfl (gz) rfl 60 x15 (0, 0) _ rg10 Tryd.underlying60 rfl h15.info ?_) | (refine wpList_load_part rfl 60 _ rfl (w.heap.size) 0 rfl 75 (r4 ra rb rc rd') (0, 0) ra _ rp0 p_0 Tryd.underlying60 rfl ha.info ?_) | (refine wpList_load_part rfl 60 _ rfl (w.heap.size) 5 rfl 75 (r4 ra rb rc rd') (0, 0) rb _ rp0 (p5_1 ha.size) Tryd.underlying60 rfl hb.info ?_) | (refine wpList_load_part rfl 60 _ rfl (w.heap.size) 10 rfl 75 (r4 ra rb rc rd') (0, 0) rc _ rp0 (p5_2 ha.size hb.size) Tryd.underlying60 rfl hc.info ?_) | (refine wpList_load_part rfl 60 _ rfl (w.heap.size) 15 rfl 75 (r4 ra rb rc rd') (0, 0) rd' _ rp0 (p5_3 ha.size hb.size hc.size) Tryd.underlying60 rfl hd.info ?_) | fail)
  refine (c19.at f4).mono ?_
  rintro e w20 ⟨rfl, hb⟩
  replace rp0 := keep hb rp0
  replace rp1 := keep hb rp1
  replace rp2 := keep hb rp2
  replace rg5 := keep hb rg5
  replace rg6 := keep hb rg6
  replace rg7 := keep hb rg7
  replace rg8 := keep hb rg8
  replace rg9 := keep hb rg9
  replace rg10 := keep hb rg10
  replace hw := Below.after hw hb
  replace f4 := f4.below hb
  clear hb
  go_wp2_with (first | (refine wpList_store_row rfl 60 _ _ rfl (w20.heap.size) x19 rfl rfl 60 #[.int .u64 0, .int .u64 0, .int .u64 0, .int .u64 0, .int .u64 0] (hp1_0 w20 _) h19.info (h19.fits rfl) h19.one ?_; rw [setRow_alloc_new _ _ _ _ _ _ (by simp)]) | fail | fail)
  have rl11 : (w20.alloc (.cells x19 60)).heap[w20.heap.size]? = some (.cells x19 60 (0, 0)) := hp1_0 w20 _
  have hb : Below w20.heap.size w20 (w20.alloc (.cells x19 60)) := ((Below.refl _ _).alloc (Nat.le_refl _) _)
  generalize (w20.alloc (.cells x19 60)) = wr at *
  have ygr_0 := lt_of_row rp0
  have ygr_1 := lt_of_row rp1
  have ygr_2 := lt_of_row rp2
  have ygr_3 := lt_of_row rg5
  have ygr_4 := lt_of_row rg6
  have ygr_5 := lt_of_row rg7
  have ygr_6 := lt_of_row rg8
  have ygr_7 := lt_of_row rg9
  have ygr_8 := lt_of_row rg10
  have ygr := hw.size
  have zgr := f4.1
  replace rp0 := keep hb rp0
  replace rp1 := keep hb rp1
  replace rp2 := keep hb rp2
  replace rg5 := keep hb rg5
  replace rg6 := keep hb rg6
  replace rg7 := keep hb rg7
  replace rg8 := keep hb rg8
  replace rg9 := keep hb rg9
  replace rg10 := keep hb rg10
  replace hw := Below.after hw hb
  replace f4 := f4.below hb
  clear hb
  generalize w20.heap.size = gr at *
  clear w20
  refine wp_region_alloc_ex 6 8 [12, 13] (fun _ => .cells #[.int .u64 0, .int .u64 0, .int .u64 0, .int .u64 0, .int .u64 0] 60 (0, 0)) (by kernel_rfl) (by decide) (by decide) (by kernel_rfl) (by kernel_rfl) (by kernel_rfl) (by kernel_rfl) (by kernel_rfl) (by kernel_rfl) (by kernel_rfl) (by kernel_rfl) (by decide) (by decide) ?_ ?_
  · intro s l u
    rcases (by omega : s = 6 ∨ s = 7) with rfl | rfl <;> exact ⟨_, _, rfl, rfl, rfl, rfl, fun a w => by kernel_rfl⟩
  apply Exists.intro
  constructor
  · intro v21 hb
    have Hrp0 := keepr (keep hb rp0)
    have Hrp1 := keepr (keep hb rp1)
    have Hrp2 := keepr (keep hb rp2)
    have Hrg5 := keepr (keep hb rg5)
    have Hrg6 := keepr (keep hb rg6)
    have Hrg7 := keepr (keep hb rg7)
    have Hrg8 := keepr (keep hb rg8)
    have Hrg9 := keepr (keep hb rg9)
    have Hrg10 := keepr (keep hb rg10)
    have Hrl11 := keepr (keep hb rl11)
    have F4 := f4.below hb
    clear hb; dsimp only [List.take]
    refine wpQuiet_load_row rfl 60 _ rfl (gh) rfl 60 x9 (0, 0) _ Hrg8.out Tryd.underlying60 rfl h9.info ?_
    simp only [Act.put, List.setIfInBounds_toArray, List.set_cons_succ, List.set_cons_zero]
    refine wpQuiet_load_row rfl 60 _ rfl (ge) rfl 60 x2 (0, 0) _ Hrg5.out Tryd.underlying60 rfl h2.info ?_
    simp only [Act.put, List.setIfInBounds_toArray, List.set_cons_succ, List.set_cons_zero]
    go_big_quiet_step (exact c22.re)
    refine wpQuiet_load_row rfl 60 _ rfl (gg) rfl 60 x8 (0, 0) _ Hrg7.out Tryd.underlying60 rfl h8.info ?_
    simp only [Act.put, List.setIfInBounds_toArray, List.set_cons_succ, List.set_cons_zero]
    refine wpQuiet_load_row rfl 60 _ rfl (gf) rfl 60 x3 (0, 0) _ Hrg6.out Tryd.underlying60 rfl h3.info ?_
    simp only [Act.put, List.setIfInBounds_toArray, List.set_cons_succ, List.set_cons_zero]
    go_big_quiet_step (exact c23.re)
    refine wpQuiet_nil ?_
    rfl
  intro w24 g hb hg hd
  obtain ⟨lg12, rg12⟩ := hg 12 (by simp)
  replace rg12 : w24.heap[g 12]? = some (.cells #[.int .u64 0, .int .u64 0, .int .u64 0, .int .u64 0, .int .u64 0] 60 (0, 0)) := rg12
  obtain ⟨lg13, rg13⟩ := hg 13 (by simp)
  replace rg13 : w24.heap[g 13]? = some (.cells #[.int .u64 0, .int .u64 0, .int .u64 0, .int .u64 0, .int .u64 0] 60 (0, 0)) := rg13
  simp only [List.drop, puts, ptrs, List.map, List.foldl, Act.put, List.setIfInBounds_toArray, List.set_cons_succ, List.set_cons_zero]
  have d13_12 := hd 13 (by simp) 12 (by simp) (by decide)
  clear hg hd
  generalize g 12 = gm at *
  generalize g 13 = gn at *
  have lrp0 := lt_of_row rp0
  have lrp1 := lt_of_row rp1
  have lrp2 := lt_of_row rp2
  have lrg5 := lt_of_row rg5
  have lrg6 := lt_of_row rg6
  have lrg7 := lt_of_row rg7
  have lrg8 := lt_of_row rg8
  have lrg9 := lt_of_row rg9
  have lrg10 := lt_of_row rg10
  have lrl11 := lt_of_row rl11
  have hs := hw.size
  have hz := f4.1
  replace rp0 := keep hb rp0
  replace rp1 := keep hb rp1
  replace rp2 := keep hb rp2
  replace rg5 := keep hb rg5
  replace rg6 := keep hb rg6
  replace rg7 := keep hb rg7
  replace rg8 := keep hb rg8
  replace rg9 := keep hb rg9
  replace rg10 := keep hb rg10
  replace rl11 := keep hb rl11
  replace hw := Below.after hw hb
  replace f4 := f4.below hb
  clear hb
  refine wpList_store_row rfl 60 _ _ rfl gm x22 rfl rfl 60 _ rg12 h22.info (h22.fits rfl) h22.one ?_
  simp only [Act.put]
  replace rp0 := (setRow_other w24 gm (w.heap.size) x22 (by omega)).trans rp0
  replace rp1 := (setRow_other w24 gm (w.heap.size + 1) x22 (by omega)).trans rp1
  replace rp2 := (setRow_other w24 gm (w.heap.size + 1 + 1) x22 (by omega)).trans rp2
  replace rg5 := (setRow_other w24 gm (ge) x22 (by omega)).trans rg5
  replace rg6 := (setRow_other w24 gm (gf) x22 (by omega)).trans rg6
  replace rg7 := (setRow_other w24 gm (gg) x22 (by omega)).trans rg7
  replace rg8 := (setRow_other w24 gm (gh) x22 (by omega)).trans rg8
  replace rg9 := (setRow_other w24 gm (gy) x22 (by omega)).trans rg9
  replace rg10 := (setRow_other w24 gm (gz) x22 (by omega)).trans rg10
  replace rl11 := (setRow_other w24 gm (gr) x22 (by omega)).trans rl11
  replace rg12 := setRow_heap w24 gm _ x22 _ _ rg12
  replace rg13 := (setRow_other w24 gm gn x22 (by omega)).trans rg13
  replace hw := below_setRow hw (show w.heap.size ≤ gm by omega) x22
  replace f4 := f4.setRow (show 1 < gm by omega) x22
  generalize w24.setRow gm x22 = w25 at *
  refine wpList_store_row rfl 60 _ _ rfl gn x23 rfl rfl 60 _ rg13 h23.info (h23.fits rfl) h23.one ?_
  simp only [Act.put]
  replace rp0 := (setRow_other w25 gn (w.heap.size) x23 (by omega)).trans rp0
  replace rp1 := (setRow_other w25 gn (w.heap.size + 1) x23 (by omega)).trans rp1
  replace rp2 := (setRow_other w25 gn (w.heap.size + 1 + 1) x23 (by omega)).trans rp2
  replace rg5 := (setRow_other w25 gn (ge) x23 (by omega)).trans rg5
  replace rg6 := (setRow_other w25 gn (gf) x23 (by omega)).trans rg6
  replace rg7 := (setRow_other w25 gn (gg) x23 (by omega)).trans rg7
  replace rg8 := (setRow_other w25 gn (gh) x23 (by omega)).trans rg8
  replace rg9 := (setRow_other w25 gn (gy) x23 (by omega)).trans rg9
  replace rg10 := (setRow_other w25 gn (gz) x23 (by omega)).trans rg10
  replace rl11 := (setRow_other w25 gn (gr) x23 (by omega)).trans rl11
  replace rg12 := (setRow_other w25 gn gm x23 (by omega)).trans rg12
  replace rg13 := setRow_heap w25 gn _ x23 _ _ rg13
  replace hw := below_setRow hw (show w.heap.size ≤ gn by omega) x23
  replace f4 := f4.setRow (show 1 < gn by omega) x23
  generalize w25.setRow gn x23 = w26 at *
  have ygm_0 : w.heap.size < gm := by omega
  have ygm_1 : w.heap.size + 1 < gm := by omega
  have ygm_2 : w.heap.size + 1 + 1 < gm := by omega
  have ygm_3 : ge < gm := by omega
  have ygm_4 : gf < gm := by omega
  have ygm_5 : gg < gm := by omega
  have ygm_6 : gh < gm := by omega
  have ygm_7 : gy < gm := by omega
  have ygm_8 : gz < gm := by omega
  have ygm_9 : gr < gm := by omega
  have ygm : w.heap.size ≤ gm := by omega
  have zgm : 1 < gm := by omega
  have ygn_0 : w.heap.size < gn := by omega
  have ygn_1 : w.heap.size + 1 < gn := by omega
  have ygn_2 : w.heap.size + 1 + 1 < gn := by omega
  have ygn_3 : ge < gn := by omega
  have ygn_4 : gf < gn := by omega
  have ygn_5 : gg < gn := by omega
  have ygn_6 : gh < gn := by omega
  have ygn_7 : gy < gn := by omega
  have ygn_8 : gz < gn := by omega
  have ygn_9 : gr < gn := by omega
  have ygn : w.heap.size ≤ gn := by omega
  have zgn : 1 < gn := by omega
  clear hs hz lrp0 lrp1 lrp2 lrg5 lrg6 lrg7 lrg8 lrg9 lrg10 lrl11 lg12 lg13
  go_wp2
  have Hrp0 := keepr rp0
  have Hrp1 := keepr rp1
  have Hrp2 := keepr rp2
  have Hrg5 := keepr rg5
  have Hrg6 := keepr rg6
  have Hrg7 := keepr rg7
  have Hrg8 := keepr rg8
  have Hrg9 := keepr rg9
  have Hrg10 := keepr rg10
  have Hrl11 := keepr rl11
  have Hrg12 := keepr rg12
  have Hrg13 := keepr rg13
  refine wp_region_tail (C := fun w' => ∃ p : Regrown, w' = grow (redrawn w26 p.d) p.os) 20 _ rfl rfl rfl (by kernel_rfl) (by kernel_rfl) (by kernel_rfl) (by kernel_rfl) ⟨⟨w26.drawn + 1, #[]⟩, by rw [grow_empty]; rfl⟩ ?_
  dsimp only [List.set, idle]
  refine wpQuiet_load_row rfl 60 _ rfl (gy) rfl 60 x14 (0, 0) _ Hrg9.out Tryd.underlying60 rfl h14.info ?_
  simp only [Act.put, List.setIfInBounds_toArray, List.set_cons_succ, List.set_cons_zero]
  refine wpQuiet_load_row rfl 60 _ rfl (gz) rfl 60 x15 (0, 0) _ Hrg10.out Tryd.underlying60 rfl h15.info ?_
  simp only [Act.put, List.setIfInBounds_toArray, List.set_cons_succ, List.set_cons_zero]
  go_big_quiet_step (exact c27.re)
  refine wpQuiet_load_row rfl 60 _ rfl (gr) rfl 60 x19 (0, 0) _ Hrl11.out Tryd.underlying60 rfl h19.info ?_
  simp only [Act.put, List.setIfInBounds_toArray, List.set_cons_succ, List.set_cons_zero]
  refine wpQuiet_load_row rfl 60 _ rfl (gy) rfl 60 x14 (0, 0) _ Hrg9.out Tryd.underlying60 rfl h14.info ?_
  simp only [Act.put, List.setIfInBounds_toArray, List.set_cons_succ, List.set_cons_zero]
  refine wpQuiet_load_row rfl 60 _ rfl (gr) rfl 60 x19 (0, 0) _ Hrl11.out Tryd.underlying60 rfl h19.info ?_
  simp only [Act.put, List.setIfInBounds_toArray, List.set_cons_succ, List.set_cons_zero]
  go_big_quiet_step (exact c28.re)
  go_big_quiet_step (exact c29.re)
  go_big_quiet_step (exact c30.re)
  refine wpQuiet_load_row rfl 60 _ rfl (gm) rfl 60 x22 (0, 0) _ Hrg12.out Tryd.underlying60 rfl h22.info ?_
  simp only [Act.put, List.setIfInBounds_toArray, List.set_cons_succ, List.set_cons_zero]
  refine wpQuiet_load_row rfl 60 _ rfl (gn) rfl 60 x23 (0, 0) _ Hrg13.out Tryd.underlying60 rfl h23.info ?_
  simp only [Act.put, List.setIfInBounds_toArray, List.set_cons_succ, List.set_cons_zero]
  go_big_quiet_step (exact c31.re)
  go_big_quiet_step (exact c32.re)
  refine wpQuiet_load_row rfl 60 _ rfl (w.heap.size + 1) rfl 60 xr (0, 0) _ Hrp1.out Tryd.underlying60 rfl hx.info ?_
  simp only [Act.put, List.setIfInBounds_toArray, List.set_cons_succ, List.set_cons_zero]
  refine wpQuiet_load_row rfl 60 _ rfl (gm) rfl 60 x22 (0, 0) _ Hrg12.out Tryd.underlying60 rfl h22.info ?_
  simp only [Act.put, List.setIfInBounds_toArray, List.set_cons_succ, List.set_cons_zero]
  refine wpQuiet_load_row rfl 60 _ rfl (gn) rfl 60 x23 (0, 0) _ Hrg13.out Tryd.underlying60 rfl h23.info ?_
  simp only [Act.put, List.setIfInBounds_toArray, List.set_cons_succ, List.set_cons_zero]
  go_big_quiet_step (exact c33.re f4)
  go_big_quiet_step (exact c34.re)
  go_big_quiet_step (exact c35.re)
  refine wpQuiet_build rfl 75 _ rfl [(0, .agg x27), (1, .agg x30), (2, .agg x32), (3, .agg x35)] rfl (r4 x27 x30 x32 x35) (nums_built h27.size h30.size h32.size h35.size) ?_
  simp only [Act.put, List.setIfInBounds_toArray, List.set_cons_succ, List.set_cons_zero]
  refine wpQuiet_idle rfl rfl rfl ?_
  rintro _ ⟨p, rfl⟩
  have hb := below_regrown w26 p.d p.os
  generalize grow (redrawn w26 p.d) p.os = w36 at *
  replace rp0 := keep hb rp0
  replace rp1 := keep hb rp1
  replace rp2 := keep hb rp2
  replace rg5 := keep hb rg5
  replace rg6 := keep hb rg6
  replace rg7 := keep hb rg7
  replace rg8 := keep hb rg8
  replace rg9 := keep hb rg9
  replace rg10 := keep hb rg10
  replace rl11 := keep hb rl11
  replace rg12 := keep hb rg12
  replace rg13 := keep hb rg13
  replace hw := Below.after hw hb
  replace f4 := f4.below hb
  clear hb
  clear Hrp0 Hrp1 Hrp2 Hrg5 Hrg6 Hrg7 Hrg8 Hrg9 Hrg10 Hrl11 Hrg12 Hrg13
  go_wp2_with (first | (refine wpList_store_row rfl 75 _ _ rfl (w.heap.size + 1 + 1) (r4 x27 x30 x32 x35) rfl rfl 75 _ rp2 (nums_info h27.size h30.size h32.size h35.size) (nums_size h27.size h30.size h32.size h35.size).symm (r4_one h27.one h30.one h32.one h35.one) ?_) | fail)
  exact bodyPost_ret (v := .agg (r4 x27 x30 x32 x35)) (results_cell_row Tryd.results32 _ _ (w.heap.size + 1 + 1) _ (r4 x27 x30 x32 x35) _ _ rfl (setRow_heap _ _ _ _ _ _ rp2) Tryd.underlying75 rfl (nums_info h27.size h30.size h32.size h35.size)) rfl ⟨rfl, below_setRow hw (by omega) _⟩

end Go.Proofs.YtkpjpdlamojejaaDoor.Lo

