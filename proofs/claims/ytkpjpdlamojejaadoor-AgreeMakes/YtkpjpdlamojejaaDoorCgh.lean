import Derived.Test.YtkpjpdlamojejaaDoorProg
import Derived.WalkKit
import Derived.WalkSpells
import Derived.WalkLawsBesides
import Derived.Lib.QuietBelow
import Derived.BigQuiet
import Derived.Test.YtkpjpdlamojejaaDoorKa
import Derived.Test.YtkpjpdlamojejaaDoorCac
import Derived.Test.YtkpjpdlamojejaaDoorAa7
import Derived.Test.YtkpjpdlamojejaaDoorGsf
import Derived.Test.YtkpjpdlamojejaaDoorGik
import Derived.Test.YtkpjpdlamojejaaDoorKim
namespace Go.Proofs.YtkpjpdlamojejaaDoor.Lo
set_option maxRecDepth 100000
open Go.RowKit Go.Sort
attribute [local go_sem] setCell_drewN alloc_drewN


/-- The cells of a rung. -/
def RungOf (R : Array Value) (s : Rg) : Prop := ∃ ra rb rc rd', NumOf ra s.a ∧ NumOf rb s.b ∧ NumOf rc s.c ∧ NumOf rd' s.d ∧ R = r4 ra rb rc rd'
theorem RungOf.size {R : Array Value} {s : Rg} (h : RungOf R s) : R.size = 20 := by
  obtain ⟨_, _, _, _, ha, hb, hc, hd, rfl⟩ := h; exact nums_size ha.size hb.size hc.size hd.size
theorem RungOf.info {R : Array Value} {s : Rg} (h : RungOf R s) : (Tryd.prog.info? 75).map (·.size) = some R.size := by rw [h.size]; exact rung_info
theorem RungOf.one {R : Array Value} {s : Rg} (h : RungOf R s) : R.all (·.oneCell') = true := by
  obtain ⟨_, _, _, _, ha, hb, hc, hd, rfl⟩ := h; exact r4_one ha.one hb.one hc.one hd.one
def NextR (xr : Array Value) (on : Bool) (R R' : Array Value) : Prop := ∃ T1 T2, Gives 31 #[.agg R, .bool on] (.agg T1) ∧ Gives4 32 #[.agg T1, .agg xr] (.agg T2) ∧ Gives 31 #[.agg T2, .bool on] (.agg R')
theorem next_rung {xr R : Array Value} {X : Int} {s : Rg} (hx : NumOf xr X) (h : RungOf R s) (on : Bool) : ∃ R', RungOf R' (rnd X on s) ∧ NextR xr on R R' := by
  obtain ⟨ra, rb, rc, rd', ha, hb, hc, hd, rfl⟩ := h
  obtain ⟨pa, pb, pc, pd, ka, kb', kc, kd, c1⟩ := turned_walk ha hb hc hd on
  obtain ⟨qa, qb, qc, qd, la, lb', lc, ld, c2⟩ := up_walk ka kb' kc kd hx
  obtain ⟨ua, ub, uc, ud, ma, mb, mc, md, c3⟩ := turned_walk la lb' lc ld on
  exact ⟨_, ⟨ua, ub, uc, ud, ma, mb, mc, md, rfl⟩, _, _, c1, c2, c3⟩
theorem rungs {xr R0 : Array Value} {X : Int} (hx : NumOf xr X) (S : Int) (h0 : RungOf R0 ⟨1, 0, X, 1⟩) : ∃ F : Nat → Array Value, F 0 = R0 ∧ ∀ i, RungOf (F i) (lad S X i) ∧ NextR xr (bt S (254 - i)) (F i) (F (i + 1)) := by
  let F : (i : Nat) → {R // RungOf R (lad S X i)} := fun i => Nat.rec ⟨R0, h0⟩ (fun i p => ⟨Classical.choose (next_rung hx p.2 (bt S (254 - i))), (Classical.choose_spec (next_rung hx p.2 (bt S (254 - i)))).1⟩) i
  exact ⟨fun i => (F i).1, rfl, fun i => ⟨(F i).2, (Classical.choose_spec (next_rung hx (F i).2 (bt S (254 - i)))).2⟩⟩
set_option maxRecDepth 100000 in
set_option maxHeartbeats 8000000 in
theorem ladder_walk {xr : Array Value} {X : Int} (hx : NumOf xr X) (S : Int) : ∃ t, NumOf t (scn S X) ∧ ∀ (w : World) (gk : Nat), Four w → w.heap[gk]? = some (.cells (kb S) 23 (0, 0)) →
    Calls Tryd.prog 21 #[.func (.func 20) #[] #[.pointer (some ⟨gk, 0, none⟩)], .agg xr] w fun e w' => e = .returned (.agg t) ∧ Below w.heap.size w w' := by
  obtain ⟨o1, ho1, co⟩ := a_small 1 (by decide) (by decide)
  have hR0 : RungOf (r4 o1 #[.int .u64 0, .int .u64 0, .int .u64 0, .int .u64 0, .int .u64 0] xr o1) ⟨1, 0, X, 1⟩ := ⟨o1, #[.int .u64 0, .int .u64 0, .int .u64 0, .int .u64 0, .int .u64 0], xr, o1, ho1, num_zero, hx, ho1, rfl⟩
  obtain ⟨F, hF0, hFs⟩ := rungs hx S hR0
  obtain ⟨ra, rb, rc, rd', ha, hb, hc, hd', hF255⟩ := (hFs 255).1
  obtain ⟨xi, hxi, ci⟩ := a_invert hb
  replace hxi := hxi.congr (Int.emod_emod _ _).symm
  obtain ⟨xm, hxm, cm⟩ := b_mul ha hxi
  refine ⟨xm, hxm, fun w gk hF hgk => ?_⟩
  change NumOf xm (scn S X) at hxm
  generalize (lad S X 255).b ^ 57896044618658097711785492504343953926634992332820282019728792003956564819947 % prm = q at hxi
  generalize scn S X = Y at hxm
  go_enter Tryd.func21, Tryd.ntmps21
  go_wp2
  have rp0 : ((w.alloc (.cells xr 60)).alloc (.cells #[.int .u64 0, .int .u64 0, .int .u64 0, .int .u64 0, .int .u64 0] 60)).heap[w.heap.size]? = some (.cells xr 60 (0, 0)) := hp2_0 w _ _
  have rp1 : ((w.alloc (.cells xr 60)).alloc (.cells #[.int .u64 0, .int .u64 0, .int .u64 0, .int .u64 0, .int .u64 0] 60)).heap[w.heap.size + 1]? = some (.cells #[.int .u64 0, .int .u64 0, .int .u64 0, .int .u64 0, .int .u64 0] 60 (0, 0)) := hp2_1 w _ _
  have hw : Below w.heap.size w ((w.alloc (.cells xr 60)).alloc (.cells #[.int .u64 0, .int .u64 0, .int .u64 0, .int .u64 0, .int .u64 0] 60)) := (((Below.refl _ _).alloc (Nat.le_refl _) _).alloc (by simp) _)
  have hz0 := hF.1
  have f4 : Four ((w.alloc (.cells xr 60)).alloc (.cells #[.int .u64 0, .int .u64 0, .int .u64 0, .int .u64 0, .int .u64 0] 60)) := ((hF.alloc _).alloc _)
  generalize ((w.alloc (.cells xr 60)).alloc (.cells #[.int .u64 0, .int .u64 0, .int .u64 0, .int .u64 0, .int .u64 0] 60)) = w0 at *
  refine wp_region_alloc_ex 4 5 [5] (fun _ => .cells #[.int .u64 0, .int .u64 0, .int .u64 0, .int .u64 0, .int .u64 0, .int .u64 0, .int .u64 0, .int .u64 0, .int .u64 0, .int .u64 0, .int .u64 0, .int .u64 0, .int .u64 0, .int .u64 0, .int .u64 0, .int .u64 0, .int .u64 0, .int .u64 0, .int .u64 0, .int .u64 0] 75 (0, 0)) (by kernel_rfl) (by decide) (by decide) (by kernel_rfl) (by kernel_rfl) (by kernel_rfl) (by kernel_rfl) (by kernel_rfl) (by kernel_rfl) (by kernel_rfl) (by kernel_rfl) (by decide) (by decide) ?_ ?_
  · intro s l u
    rcases (by omega : s = 4) with rfl <;> exact ⟨_, _, rfl, rfl, rfl, rfl, fun a w => by kernel_rfl⟩
  apply Exists.intro
  constructor
  · intro v1 hb
    have Hrp0 := keepr (keep hb rp0)
    have Hrp1 := keepr (keep hb rp1)
    have F4 := f4.below hb
    clear hb; dsimp only [List.take]
    go_big_quiet_step (exact co.re)
    refine wpQuiet_load_row rfl 60 _ rfl (w.heap.size) rfl 60 xr (0, 0) _ Hrp0.out Tryd.underlying60 rfl hx.info ?_
    simp only [Act.put, List.setIfInBounds_toArray, List.set_cons_succ, List.set_cons_zero]
    go_big_quiet_step (exact co.re)
    refine wpQuiet_build rfl 75 _ rfl [(0, .agg o1), (2, .agg xr), (3, .agg o1)] rfl (r4 o1 #[.int .u64 0, .int .u64 0, .int .u64 0, .int .u64 0, .int .u64 0] xr o1) (nums_built3 ho1.size hx.size ho1.size) ?_
    simp only [Act.put, List.setIfInBounds_toArray, List.set_cons_succ, List.set_cons_zero]
    refine wpQuiet_nil ?_
    rfl
  intro w3 g hb hg hd
  obtain ⟨lg5, rg5⟩ := hg 5 (by simp)
  replace rg5 : w3.heap[g 5]? = some (.cells #[.int .u64 0, .int .u64 0, .int .u64 0, .int .u64 0, .int .u64 0, .int .u64 0, .int .u64 0, .int .u64 0, .int .u64 0, .int .u64 0, .int .u64 0, .int .u64 0, .int .u64 0, .int .u64 0, .int .u64 0, .int .u64 0, .int .u64 0, .int .u64 0, .int .u64 0, .int .u64 0] 75 (0, 0)) := rg5
  simp only [List.drop, puts, ptrs, List.map, List.foldl, Act.put, List.setIfInBounds_toArray, List.set_cons_succ, List.set_cons_zero]
  clear hg hd
  generalize g 5 = gp at *
  have lrp0 := lt_of_row rp0
  have lrp1 := lt_of_row rp1
  have hs := hw.size
  have hz := f4.1
  replace rp0 := keep hb rp0
  replace rp1 := keep hb rp1
  replace hw := Below.after hw hb
  replace f4 := f4.below hb
  clear hb
  refine wpList_store_row rfl 75 _ _ rfl gp (r4 o1 #[.int .u64 0, .int .u64 0, .int .u64 0, .int .u64 0, .int .u64 0] xr o1) rfl rfl 75 _ rg5 (nums_info ho1.size num_zero.size hx.size ho1.size) (nums_size ho1.size num_zero.size hx.size ho1.size).symm (r4_one ho1.one num_zero.one hx.one ho1.one) ?_
  simp only [Act.put]
  replace rp0 := (setRow_other w3 gp (w.heap.size) (r4 o1 #[.int .u64 0, .int .u64 0, .int .u64 0, .int .u64 0, .int .u64 0] xr o1) (by omega)).trans rp0
  replace rp1 := (setRow_other w3 gp (w.heap.size + 1) (r4 o1 #[.int .u64 0, .int .u64 0, .int .u64 0, .int .u64 0, .int .u64 0] xr o1) (by omega)).trans rp1
  replace rg5 := setRow_heap w3 gp _ (r4 o1 #[.int .u64 0, .int .u64 0, .int .u64 0, .int .u64 0, .int .u64 0] xr o1) _ _ rg5
  replace hw := below_setRow hw (show w.heap.size ≤ gp by omega) (r4 o1 #[.int .u64 0, .int .u64 0, .int .u64 0, .int .u64 0, .int .u64 0] xr o1)
  replace f4 := f4.setRow (show 1 < gp by omega) (r4 o1 #[.int .u64 0, .int .u64 0, .int .u64 0, .int .u64 0, .int .u64 0] xr o1)
  generalize w3.setRow gp (r4 o1 #[.int .u64 0, .int .u64 0, .int .u64 0, .int .u64 0, .int .u64 0] xr o1) = w4 at *
  have ygp_0 : w.heap.size < gp := by omega
  have ygp_1 : w.heap.size + 1 < gp := by omega
  have ygp : w.heap.size ≤ gp := by omega
  have zgp : 1 < gp := by omega
  clear hs hz lrp0 lrp1 lg5
  go_wp2
  go_loopw [12] (fun i wr => ∃ k : Nat, k ≤ 255 ∧ i = .int .i64 k ∧ wr.heap[w.heap.size]? = some (.cells xr 60 (0, 0)) ∧ wr.heap[w.heap.size + 1]? = some (.cells #[.int .u64 0, .int .u64 0, .int .u64 0, .int .u64 0, .int .u64 0] 60 (0, 0)) ∧ wr.heap[gp]? = some (.cells (F k) 75 (0, 0)) ∧ Four wr ∧ Below w.heap.size w wr) (fun i _ => 255 - (intOf i).toNat)
  case atStart => exact ⟨0, by omega, rfl, rp0, rp1, by rw [hF0]; exact rg5, f4, hw⟩
  case round =>
    clear rp0 rp1 rg5 f4 hw
    obtain ⟨k, hk, rfl, rp0, rp1, rg5, f4, hw⟩ := hrel
    by_cases hlt : k < 255
    · have hd : decide ((k : Int) < 255) = true := by simp; omega
      have cb := bit_any S gk (254 - k) (by omega) wr ((hw.block gk (lt_of_row hgk)).trans hgk)
      rw [show ((254 - k : Nat) : Int) = 254 - (k : Int) by omega] at cb
      obtain ⟨hRk, T1, T2, cT1, cT2, cT3⟩ := hFs k
      have hRn := (hFs (k + 1)).1
      generalize hFk : F k = Rk at *
      generalize hFn : F (k + 1) = Rn at *
      generalize bt S (254 - k) = on at *
      go_wp2_with (first | fail)
      refine cb.mono ?_
      rintro e w1 ⟨rfl, hb⟩
      replace rp0 := keep hb rp0
      replace rp1 := keep hb rp1
      replace rg5 := keep hb rg5
      replace hw := Below.after hw hb
      replace f4 := f4.below hb
      clear hb
      go_wp2_with (first | fail)
      have Hrp0 := keepr rp0
      have Hrp1 := keepr rp1
      have Hrg5 := keepr rg5
      refine wp_region_tail (C := fun w' => ∃ p : Regrown, w' = grow (redrawn w1 p.d) p.os) 7 _ rfl rfl rfl (by kernel_rfl) (by kernel_rfl) (by kernel_rfl) (by kernel_rfl) ⟨⟨w1.drawn + 1, #[]⟩, by rw [grow_empty]; rfl⟩ ?_
      dsimp only [List.set, idle]
      refine wpQuiet_load_row rfl 75 _ rfl (gp) rfl 75 Rk (0, 0) _ Hrg5.out Tryd.underlying75 rfl hRk.info ?_
      simp only [Act.put, List.setIfInBounds_toArray, List.set_cons_succ, List.set_cons_zero]
      go_big_quiet_step (fail)
      go_big_quiet_step (exact cT1.re)
      refine wpQuiet_load_row rfl 60 _ rfl (w.heap.size) rfl 60 xr (0, 0) _ Hrp0.out Tryd.underlying60 rfl hx.info ?_
      simp only [Act.put, List.setIfInBounds_toArray, List.set_cons_succ, List.set_cons_zero]
      go_big_quiet_step (exact cT2.re f4)
      go_big_quiet_step (fail)
      go_big_quiet_step (exact cT3.re)
      refine wpQuiet_idle rfl rfl rfl ?_
      rintro _ ⟨p, rfl⟩
      have hb := below_regrown w1 p.d p.os
      generalize grow (redrawn w1 p.d) p.os = w8 at *
      replace rp0 := keep hb rp0
      replace rp1 := keep hb rp1
      replace rg5 := keep hb rg5
      replace hw := Below.after hw hb
      replace f4 := f4.below hb
      clear hb
      clear Hrp0 Hrp1 Hrg5
      go_wp2_with (first | (refine wpList_store_row rfl 75 _ _ rfl (gp) Rn rfl rfl 75 _ rg5 hRn.info (hRk.size.trans hRn.size.symm) hRn.one ?_) | fail)
      go_roundw
      case rel => exact ⟨k + 1, by omega, by go_num, (setRow_other w8 gp (w.heap.size) Rn (by omega)).trans rp0, (setRow_other w8 gp (w.heap.size + 1) Rn (by omega)).trans rp1, by rw [hFn]; exact setRow_heap w8 gp _ Rn _ _ rg5, f4.setRow (by omega) Rn, below_setRow hw (by omega) Rn⟩
      case measure => simp [intOf]; omega
    · obtain rfl : k = 255 := by omega
      have hd : decide (((255 : Nat) : Int) < 255) = false := by decide
      rw [hF255] at rg5
      clear hFs
      go_wp2_with (first | fail)
      have Hrp0 := keepr rp0
      have Hrp1 := keepr rp1
      have Hrg5 := keepr rg5
      refine wp_region_tail (C := fun w' => ∃ p : Regrown, w' = grow (redrawn wr p.d) p.os) 6 _ rfl rfl rfl (by kernel_rfl) (by kernel_rfl) (by kernel_rfl) (by kernel_rfl) ⟨⟨wr.drawn + 1, #[]⟩, by rw [grow_empty]; rfl⟩ ?_
      dsimp only [List.set, idle]
      go_big_quiet_step (fail)
      refine wpQuiet_load_part rfl 60 _ rfl (gp) 0 rfl 75 (r4 ra rb rc rd') (0, 0) ra _ Hrg5.out p_0 Tryd.underlying60 rfl ha.info ?_
      simp only [Act.put, List.setIfInBounds_toArray, List.set_cons_succ, List.set_cons_zero]
      go_big_quiet_step (fail)
      refine wpQuiet_load_part rfl 60 _ rfl (gp) 5 rfl 75 (r4 ra rb rc rd') (0, 0) rb _ Hrg5.out (p5_1 ha.size) Tryd.underlying60 rfl hb.info ?_
      simp only [Act.put, List.setIfInBounds_toArray, List.set_cons_succ, List.set_cons_zero]
      go_big_quiet_step (exact ci.re)
      go_big_quiet_step (exact cm.re)
      refine wpQuiet_idle rfl rfl rfl ?_
      rintro _ ⟨p, rfl⟩
      have hb := below_regrown wr p.d p.os
      generalize grow (redrawn wr p.d) p.os = w11 at *
      replace rp0 := keep hb rp0
      replace rp1 := keep hb rp1
      replace rg5 := keep hb rg5
      replace hw := Below.after hw hb
      replace f4 := f4.below hb
      clear hb
      clear Hrp0 Hrp1 Hrg5
      go_wp2_with (first | (refine wpList_store_row rfl 60 _ _ rfl (w.heap.size + 1) xm rfl rfl 60 _ rp1 hxm.info (hxm.fits rfl) hxm.one ?_) | fail)
      exact bodyPost_ret (v := .agg xm) (results_cell_row Tryd.results21 _ _ (w.heap.size + 1) _ xm _ _ rfl (setRow_heap _ _ _ _ _ _ rp1) Tryd.underlying60 rfl hxm.info) rfl ⟨rfl, below_setRow hw (by omega) _⟩

end Go.Proofs.YtkpjpdlamojejaaDoor.Lo


namespace Go.Proofs.YtkpjpdlamojejaaDoor.Lo
set_option maxRecDepth 100000
open Go.RowKit Go.Sort
attribute [local go_sem] setCell_drewN alloc_drewN


set_option maxRecDepth 100000 in
set_option maxHeartbeats 8000000 in
theorem a_scale {k u : Array Value} {K U : Int} (hk : KeyOf k K) (hu : KeyOf u U) : Gives4 13 #[.agg k, .agg u] (.agg (kb (scl K U))) := by
  have cC := a_clamp hk
  have hS : KeyOf (kb (clp K)) (clp K) := kb_key _ (clp_bd K).1 (Int.lt_trans (clp_bd K).2 (by decide))
  obtain ⟨xr, hx0, cF⟩ := a_from hu
  have hx : NumOf xr (num U) := hx0.congr (Int.emod_emod _ _).symm
  clear hx0
  obtain ⟨t, ht, cL⟩ := ladder_walk hx (clp K)
  have cB := a_bytes ht
  have eY : scn (clp K) (num U) % prm = scl K U := Int.emod_emod _ _
  rw [eY] at cB
  have hY : KeyOf (kb (scl K U)) (scl K U) := kb_key _ (scl_bd K U).1 (scl_bd K U).2
  clear eY
  have hz := key_zero
  have hmf : ∀ (fn : Fn) (first cap : Array Value) (w : World), (Instr.makeFunc fn first cap).run Tryd.prog w = .ok (.func fn first cap) w := fun _ _ _ _ => rfl
  generalize scl K U = Y at *
  generalize scn (clp K) (num U) = Y' at *
  generalize clp K = S at *
  generalize num U = X at *
  intro w hF
  go_enter Tryd.func13, Tryd.ntmps13
  go_wp2_with (first | (refine wpList_load_want rfl 23 _ rfl (w.heap.size) rfl 23 k (0, 0) _ (hp3_0 w _ _ _) Tryd.underlying23 rfl hk.info ?_) | (refine wpList_load_want rfl 23 _ rfl (w.heap.size + 1) rfl 23 u (0, 0) _ (hp3_1 w _ _ _) Tryd.underlying23 rfl hu.info ?_) | (refine wpList_load_want rfl 23 _ rfl (w.heap.size + 1 + 1) rfl 23 #[.int .u8 0, .int .u8 0, .int .u8 0, .int .u8 0, .int .u8 0, .int .u8 0, .int .u8 0, .int .u8 0, .int .u8 0, .int .u8 0, .int .u8 0, .int .u8 0, .int .u8 0, .int .u8 0, .int .u8 0, .int .u8 0, .int .u8 0, .int .u8 0, .int .u8 0, .int .u8 0, .int .u8 0, .int .u8 0, .int .u8 0, .int .u8 0, .int .u8 0, .int .u8 0, .int .u8 0, .int .u8 0, .int .u8 0, .int .u8 0, .int .u8 0, .int .u8 0] (0, 0) _ (hp3_2 w _ _ _) Tryd.underlying23 rfl hz.info ?_) | fail)
  have rp0 : (((w.alloc (.cells k 23)).alloc (.cells u 23)).alloc (.cells #[.int .u8 0, .int .u8 0, .int .u8 0, .int .u8 0, .int .u8 0, .int .u8 0, .int .u8 0, .int .u8 0, .int .u8 0, .int .u8 0, .int .u8 0, .int .u8 0, .int .u8 0, .int .u8 0, .int .u8 0, .int .u8 0, .int .u8 0, .int .u8 0, .int .u8 0, .int .u8 0, .int .u8 0, .int .u8 0, .int .u8 0, .int .u8 0, .int .u8 0, .int .u8 0, .int .u8 0, .int .u8 0, .int .u8 0, .int .u8 0, .int .u8 0, .int .u8 0] 23)).heap[w.heap.size]? = some (.cells k 23 (0, 0)) := hp3_0 w _ _ _
  have rp1 : (((w.alloc (.cells k 23)).alloc (.cells u 23)).alloc (.cells #[.int .u8 0, .int .u8 0, .int .u8 0, .int .u8 0, .int .u8 0, .int .u8 0, .int .u8 0, .int .u8 0, .int .u8 0, .int .u8 0, .int .u8 0, .int .u8 0, .int .u8 0, .int .u8 0, .int .u8 0, .int .u8 0, .int .u8 0, .int .u8 0, .int .u8 0, .int .u8 0, .int .u8 0, .int .u8 0, .int .u8 0, .int .u8 0, .int .u8 0, .int .u8 0, .int .u8 0, .int .u8 0, .int .u8 0, .int .u8 0, .int .u8 0, .int .u8 0] 23)).heap[w.heap.size + 1]? = some (.cells u 23 (0, 0)) := hp3_1 w _ _ _
  have rp2 : (((w.alloc (.cells k 23)).alloc (.cells u 23)).alloc (.cells #[.int .u8 0, .int .u8 0, .int .u8 0, .int .u8 0, .int .u8 0, .int .u8 0, .int .u8 0, .int .u8 0, .int .u8 0, .int .u8 0, .int .u8 0, .int .u8 0, .int .u8 0, .int .u8 0, .int .u8 0, .int .u8 0, .int .u8 0, .int .u8 0, .int .u8 0, .int .u8 0, .int .u8 0, .int .u8 0, .int .u8 0, .int .u8 0, .int .u8 0, .int .u8 0, .int .u8 0, .int .u8 0, .int .u8 0, .int .u8 0, .int .u8 0, .int .u8 0] 23)).heap[w.heap.size + 1 + 1]? = some (.cells #[.int .u8 0, .int .u8 0, .int .u8 0, .int .u8 0, .int .u8 0, .int .u8 0, .int .u8 0, .int .u8 0, .int .u8 0, .int .u8 0, .int .u8 0, .int .u8 0, .int .u8 0, .int .u8 0, .int .u8 0, .int .u8 0, .int .u8 0, .int .u8 0, .int .u8 0, .int .u8 0, .int .u8 0, .int .u8 0, .int .u8 0, .int .u8 0, .int .u8 0, .int .u8 0, .int .u8 0, .int .u8 0, .int .u8 0, .int .u8 0, .int .u8 0, .int .u8 0] 23 (0, 0)) := hp3_2 w _ _ _
  have hw : Below w.heap.size w (((w.alloc (.cells k 23)).alloc (.cells u 23)).alloc (.cells #[.int .u8 0, .int .u8 0, .int .u8 0, .int .u8 0, .int .u8 0, .int .u8 0, .int .u8 0, .int .u8 0, .int .u8 0, .int .u8 0, .int .u8 0, .int .u8 0, .int .u8 0, .int .u8 0, .int .u8 0, .int .u8 0, .int .u8 0, .int .u8 0, .int .u8 0, .int .u8 0, .int .u8 0, .int .u8 0, .int .u8 0, .int .u8 0, .int .u8 0, .int .u8 0, .int .u8 0, .int .u8 0, .int .u8 0, .int .u8 0, .int .u8 0, .int .u8 0] 23)) := ((((Below.refl _ _).alloc (Nat.le_refl _) _).alloc (by simp) _).alloc (by simp; omega) _)
  have hz0 := hF.1
  have f4 : Four (((w.alloc (.cells k 23)).alloc (.cells u 23)).alloc (.cells #[.int .u8 0, .int .u8 0, .int .u8 0, .int .u8 0, .int .u8 0, .int .u8 0, .int .u8 0, .int .u8 0, .int .u8 0, .int .u8 0, .int .u8 0, .int .u8 0, .int .u8 0, .int .u8 0, .int .u8 0, .int .u8 0, .int .u8 0, .int .u8 0, .int .u8 0, .int .u8 0, .int .u8 0, .int .u8 0, .int .u8 0, .int .u8 0, .int .u8 0, .int .u8 0, .int .u8 0, .int .u8 0, .int .u8 0, .int .u8 0, .int .u8 0, .int .u8 0] 23)) := (((hF.alloc _).alloc _).alloc _)
  generalize (((w.alloc (.cells k 23)).alloc (.cells u 23)).alloc (.cells #[.int .u8 0, .int .u8 0, .int .u8 0, .int .u8 0, .int .u8 0, .int .u8 0, .int .u8 0, .int .u8 0, .int .u8 0, .int .u8 0, .int .u8 0, .int .u8 0, .int .u8 0, .int .u8 0, .int .u8 0, .int .u8 0, .int .u8 0, .int .u8 0, .int .u8 0, .int .u8 0, .int .u8 0, .int .u8 0, .int .u8 0, .int .u8 0, .int .u8 0, .int .u8 0, .int .u8 0, .int .u8 0, .int .u8 0, .int .u8 0, .int .u8 0, .int .u8 0] 23)) = w0 at *
  refine (cC.at _).mono ?_
  rintro e w2 ⟨rfl, hb⟩
  replace rp0 := keep hb rp0
  replace rp1 := keep hb rp1
  replace rp2 := keep hb rp2
  replace hw := Below.after hw hb
  replace f4 := f4.below hb
  clear hb
  go_wp2_with (first | (refine wpList_store_row rfl 23 _ _ rfl (w2.heap.size) (kb S) rfl rfl 23 #[.int .u8 0, .int .u8 0, .int .u8 0, .int .u8 0, .int .u8 0, .int .u8 0, .int .u8 0, .int .u8 0, .int .u8 0, .int .u8 0, .int .u8 0, .int .u8 0, .int .u8 0, .int .u8 0, .int .u8 0, .int .u8 0, .int .u8 0, .int .u8 0, .int .u8 0, .int .u8 0, .int .u8 0, .int .u8 0, .int .u8 0, .int .u8 0, .int .u8 0, .int .u8 0, .int .u8 0, .int .u8 0, .int .u8 0, .int .u8 0, .int .u8 0, .int .u8 0] (hp1_0 w2 _) hS.info (hz.size.trans hS.size.symm) hS.one ?_; rw [setRow_alloc_new _ _ _ _ _ _ (by simp)]) | (refine wpList_load_want rfl 23 _ rfl (w2.heap.size) rfl 23 (kb S) (0, 0) _ (hp1_0 w2 _) Tryd.underlying23 rfl hS.info ?_) | (refine wpList_load_want rfl 23 _ rfl (w.heap.size) rfl 23 k (0, 0) _ (keep ((Below.refl _ _).alloc (Nat.le_refl _) _) rp0) Tryd.underlying23 rfl hk.info ?_) | (refine wpList_load_want rfl 23 _ rfl (w.heap.size + 1) rfl 23 u (0, 0) _ (keep ((Below.refl _ _).alloc (Nat.le_refl _) _) rp1) Tryd.underlying23 rfl hu.info ?_) | (refine wpList_load_want rfl 23 _ rfl (w.heap.size + 1 + 1) rfl 23 #[.int .u8 0, .int .u8 0, .int .u8 0, .int .u8 0, .int .u8 0, .int .u8 0, .int .u8 0, .int .u8 0, .int .u8 0, .int .u8 0, .int .u8 0, .int .u8 0, .int .u8 0, .int .u8 0, .int .u8 0, .int .u8 0, .int .u8 0, .int .u8 0, .int .u8 0, .int .u8 0, .int .u8 0, .int .u8 0, .int .u8 0, .int .u8 0, .int .u8 0, .int .u8 0, .int .u8 0, .int .u8 0, .int .u8 0, .int .u8 0, .int .u8 0, .int .u8 0] (0, 0) _ (keep ((Below.refl _ _).alloc (Nat.le_refl _) _) rp2) Tryd.underlying23 rfl hz.info ?_) | fail)
  have rl5 : (w2.alloc (.cells (kb S) 23)).heap[w2.heap.size]? = some (.cells (kb S) 23 (0, 0)) := hp1_0 w2 _
  have hb : Below w2.heap.size w2 (w2.alloc (.cells (kb S) 23)) := ((Below.refl _ _).alloc (Nat.le_refl _) _)
  generalize (w2.alloc (.cells (kb S) 23)) = wa at *
  have ygs_0 := lt_of_row rp0
  have ygs_1 := lt_of_row rp1
  have ygs_2 := lt_of_row rp2
  have ygs := hw.size
  have zgs := f4.1
  replace rp0 := keep hb rp0
  replace rp1 := keep hb rp1
  replace rp2 := keep hb rp2
  replace hw := Below.after hw hb
  replace f4 := f4.below hb
  clear hb
  generalize w2.heap.size = gs at *
  clear w2
  refine (cF.at _).mono ?_
  rintro e w4 ⟨rfl, hb⟩
  replace rp0 := keep hb rp0
  replace rp1 := keep hb rp1
  replace rp2 := keep hb rp2
  replace rl5 := keep hb rl5
  replace hw := Below.after hw hb
  replace f4 := f4.below hb
  clear hb
  go_wp2_with (first | fail)
  refine (cL _ gs f4 rl5).mono ?_
  rintro e wl ⟨rfl, hb⟩
  replace rp0 := keep hb rp0
  replace rp1 := keep hb rp1
  replace rp2 := keep hb rp2
  replace rl5 := keep hb rl5
  replace hw := Below.after hw hb
  replace f4 := f4.below hb
  clear hb
  go_wp2_with (first | (refine wpList_load_want rfl 23 _ rfl (w.heap.size) rfl 23 k (0, 0) _ rp0 Tryd.underlying23 rfl hk.info ?_) | (refine wpList_load_want rfl 23 _ rfl (w.heap.size + 1) rfl 23 u (0, 0) _ rp1 Tryd.underlying23 rfl hu.info ?_) | (refine wpList_load_want rfl 23 _ rfl (w.heap.size + 1 + 1) rfl 23 #[.int .u8 0, .int .u8 0, .int .u8 0, .int .u8 0, .int .u8 0, .int .u8 0, .int .u8 0, .int .u8 0, .int .u8 0, .int .u8 0, .int .u8 0, .int .u8 0, .int .u8 0, .int .u8 0, .int .u8 0, .int .u8 0, .int .u8 0, .int .u8 0, .int .u8 0, .int .u8 0, .int .u8 0, .int .u8 0, .int .u8 0, .int .u8 0, .int .u8 0, .int .u8 0, .int .u8 0, .int .u8 0, .int .u8 0, .int .u8 0, .int .u8 0, .int .u8 0] (0, 0) _ rp2 Tryd.underlying23 rfl hz.info ?_) | (refine wpList_load_want rfl 23 _ rfl (gs) rfl 23 (kb S) (0, 0) _ rl5 Tryd.underlying23 rfl hS.info ?_) | fail)
  refine (cB.at _).mono ?_
  rintro e w6 ⟨rfl, hb⟩
  replace rp0 := keep hb rp0
  replace rp1 := keep hb rp1
  replace rp2 := keep hb rp2
  replace rl5 := keep hb rl5
  replace hw := Below.after hw hb
  replace f4 := f4.below hb
  clear hb
  go_wp2_with (first | (refine wpList_store_row rfl 23 _ _ rfl (w.heap.size + 1 + 1) (kb Y) rfl rfl 23 _ rp2 hY.info (hz.size.trans hY.size.symm) hY.one ?_) | fail)
  exact bodyPost_ret (v := .agg (kb Y)) (results_cell_row Tryd.results13 _ _ (w.heap.size + 1 + 1) _ (kb Y) _ _ rfl (setRow_heap _ _ _ _ _ _ rp2) Tryd.underlying23 rfl hY.info) rfl ⟨rfl, below_setRow hw (by omega) _⟩

end Go.Proofs.YtkpjpdlamojejaaDoor.Lo


namespace Go.Proofs.YtkpjpdlamojejaaDoor.Lo
set_option maxRecDepth 100000
open Go.RowKit Go.Sort
attribute [local go_sem] setCell_drewN alloc_drewN


theorem key_nine : KeyOf #[.int .u8 9, .int .u8 0, .int .u8 0, .int .u8 0, .int .u8 0, .int .u8 0, .int .u8 0, .int .u8 0, .int .u8 0, .int .u8 0, .int .u8 0, .int .u8 0, .int .u8 0, .int .u8 0, .int .u8 0, .int .u8 0, .int .u8 0, .int .u8 0, .int .u8 0, .int .u8 0, .int .u8 0, .int .u8 0, .int .u8 0, .int .u8 0, .int .u8 0, .int .u8 0, .int .u8 0, .int .u8 0, .int .u8 0, .int .u8 0, .int .u8 0, .int .u8 0] 9 := ⟨9, 0, 0, 0, 0, 0, 0, 0, 0, 0, 0, 0, 0, 0, 0, 0, 0, 0, 0, 0, 0, 0, 0, 0, 0, 0, 0, 0, 0, 0, 0, 0, rfl, by decide, rfl⟩
theorem built9 : Tryd.prog.built 23 [(0, .int .u8 9)] = some #[.int .u8 9, .int .u8 0, .int .u8 0, .int .u8 0, .int .u8 0, .int .u8 0, .int .u8 0, .int .u8 0, .int .u8 0, .int .u8 0, .int .u8 0, .int .u8 0, .int .u8 0, .int .u8 0, .int .u8 0, .int .u8 0, .int .u8 0, .int .u8 0, .int .u8 0, .int .u8 0, .int .u8 0, .int .u8 0, .int .u8 0, .int .u8 0, .int .u8 0, .int .u8 0, .int .u8 0, .int .u8 0, .int .u8 0, .int .u8 0, .int .u8 0, .int .u8 0] := by kernel_rfl
theorem built0 : Tryd.prog.built 23 [] = some #[.int .u8 0, .int .u8 0, .int .u8 0, .int .u8 0, .int .u8 0, .int .u8 0, .int .u8 0, .int .u8 0, .int .u8 0, .int .u8 0, .int .u8 0, .int .u8 0, .int .u8 0, .int .u8 0, .int .u8 0, .int .u8 0, .int .u8 0, .int .u8 0, .int .u8 0, .int .u8 0, .int .u8 0, .int .u8 0, .int .u8 0, .int .u8 0, .int .u8 0, .int .u8 0, .int .u8 0, .int .u8 0, .int .u8 0, .int .u8 0, .int .u8 0, .int .u8 0] := by kernel_rfl
theorem zero_kb : #[.int .u8 0, .int .u8 0, .int .u8 0, .int .u8 0, .int .u8 0, .int .u8 0, .int .u8 0, .int .u8 0, .int .u8 0, .int .u8 0, .int .u8 0, .int .u8 0, .int .u8 0, .int .u8 0, .int .u8 0, .int .u8 0, .int .u8 0, .int .u8 0, .int .u8 0, .int .u8 0, .int .u8 0, .int .u8 0, .int .u8 0, .int .u8 0, .int .u8 0, .int .u8 0, .int .u8 0, .int .u8 0, .int .u8 0, .int .u8 0, .int .u8 0, .int .u8 0] = kb 0 := key_kb key_zero
theorem key_zero_eq (q : Int) (h0 : 0 ≤ q) (h1 : q < 115792089237316195423570985008687907853269984665640564039457584007913129639936) (W : World) : (Op.equalIn 10000 23 (.agg (kb q)) (.agg #[.int .u8 0, .int .u8 0, .int .u8 0, .int .u8 0, .int .u8 0, .int .u8 0, .int .u8 0, .int .u8 0, .int .u8 0, .int .u8 0, .int .u8 0, .int .u8 0, .int .u8 0, .int .u8 0, .int .u8 0, .int .u8 0, .int .u8 0, .int .u8 0, .int .u8 0, .int .u8 0, .int .u8 0, .int .u8 0, .int .u8 0, .int .u8 0, .int .u8 0, .int .u8 0, .int .u8 0, .int .u8 0, .int .u8 0, .int .u8 0, .int .u8 0, .int .u8 0])).run Tryd.prog W = .ok (decide (q = 0)) W := by
  rw [zero_kb]; exact kb_equal q 0 h0 h1 (by decide) (by decide) W


end Go.Proofs.YtkpjpdlamojejaaDoor.Lo

