import Derived.Test.YtcjdglckbkdheaaDoorProg
import Derived.WalkKit
import Derived.WalkSpells
import Derived.WalkLawsBesides
import Derived.Lib.QuietBelow
import Derived.BigQuiet
import Derived.Test.YtcjdglckbkdheaaDoorKit
import Derived.Test.YtcjdglckbkdheaaDoorAc
import Derived.Test.YtcjdglckbkdheaaDoorAe
import Derived.Test.YtcjdglckbkdheaaDoorAf
import Derived.Test.YtcjdglckbkdheaaDoorAlloc3
import Derived.Test.YtcjdglckbkdheaaDoorRi
import Derived.Test.YtcjdglckbkdheaaDoorGs
import Derived.Test.YtcjdglckbkdheaaDoorLf
namespace Go.Proofs.YtcjdglckbkdheaaDoor
open Go.RowKit Go.Sort
attribute [local go_sem] setCell_drewN alloc_drewN


set_option maxRecDepth 100000 in
set_option maxHeartbeats 4000000 in
theorem pairs_any {kp kq : Array Value} {Np Nq : Int} (hkp : KeyOf kp Np) (hkq : KeyOf kq Nq) (on : Bool) (w : World) (hF : Four w) :
    Calls Tryd.prog 4 #[.agg kp, .agg kq, .bool on] w fun e w' => e = .returned (.bool true) ∧ Below w.heap.size w w' := by
  have heq : ∀ (q : Int) W, (Op.equalIn 10000 34 (.agg (kb q)) (.agg (kb q))).run Tryd.prog W = .ok true W := fun q W => by
    have e : kb q = #[.int .u8 (byt q 0), .int .u8 (byt q 1), .int .u8 (byt q 2), .int .u8 (byt q 3), .int .u8 (byt q 4), .int .u8 (byt q 5), .int .u8 (byt q 6), .int .u8 (byt q 7), .int .u8 (byt q 8), .int .u8 (byt q 9), .int .u8 (byt q 10), .int .u8 (byt q 11), .int .u8 (byt q 12), .int .u8 (byt q 13), .int .u8 (byt q 14), .int .u8 (byt q 15), .int .u8 (byt q 16), .int .u8 (byt q 17), .int .u8 (byt q 18), .int .u8 (byt q 19), .int .u8 (byt q 20), .int .u8 (byt q 21), .int .u8 (byt q 22), .int .u8 (byt q 23), .int .u8 (byt q 24), .int .u8 (byt q 25), .int .u8 (byt q 26), .int .u8 (byt q 27), .int .u8 (byt q 28), .int .u8 (byt q 29), .int .u8 (byt q 30), .int .u8 (byt q 31)] := rfl
    rw [e, keys_equal]; simp
  obtain ⟨rp, hp, cp⟩ := a_from hkp
  have dp := r_from hkp
  have ip := inP_mod (Np % 57896044618658097711785492504343953926634992332820282019728792003956564819968)
  replace hp := hp.congr (y := Np % 57896044618658097711785492504343953926634992332820282019728792003956564819968 % prm) (by rw [Int.emod_emod])
  generalize Np % 57896044618658097711785492504343953926634992332820282019728792003956564819968 % prm = mp at *
  obtain ⟨rq, hq, cq⟩ := a_from hkq
  have dq := r_from hkq
  have iq := inP_mod (Nq % 57896044618658097711785492504343953926634992332820282019728792003956564819968)
  replace hq := hq.congr (y := Nq % 57896044618658097711785492504343953926634992332820282019728792003956564819968 % prm) (by rw [Int.emod_emod])
  generalize Nq % 57896044618658097711785492504343953926634992332820282019728792003956564819968 % prm = mq at *
  have cS := a_swap hp hq on
  have dS := r_swap mp mq on
  have hsp : NumOf (if on then rq else rp) (if on then mq else mp) := by cases on <;> assumption
  have hsq : NumOf (if on then rp else rq) (if on then mp else mq) := by cases on <;> assumption
  have isp : inP (if on then mq else mp) := by cases on <;> assumption
  have isq : inP (if on then mp else mq) := by cases on <;> assumption
  generalize (if on then rq else rp) = sp at *
  generalize (if on then rp else rq) = sq at *
  generalize (if on then mq else mp) = up at *
  generalize (if on then mp else mq) = uq at *
  obtain ⟨x12, h12, c12⟩ := a_add hp hq
  have c13 := a_bytes h12
  have c14 := r_add ip iq
  have c15 := r_bytes ((mp + mq) % prm)
  obtain ⟨x16, h16, c16⟩ := a_sub hp hq
  have c17 := a_bytes h16
  have c18 := r_sub ip iq
  have c19 := r_bytes ((mp - mq) % prm)
  obtain ⟨x20, h20, c20⟩ := a_mul hp hq
  have c21 := a_bytes h20
  have c22 := r_mul ip iq
  have c23 := r_bytes (mp * mq % prm)
  obtain ⟨x25, h25, c25⟩ := a_neg hp
  have c26 := a_bytes h25
  have c27 := r_neg ip
  have c28 := r_bytes (-mp % prm)
  obtain ⟨x29, h29, c29⟩ := a_square hp
  have c30 := a_bytes h29
  have c31 := r_square ip
  have c32 := r_bytes (mp * mp % prm)
  have c37 := a_asked hp hq ip iq
  have c39 := a_asked hsp hsq isp isq
  go_enter Tryd.func4, Tryd.ntmps4
  go_wp2
  have rp0 : ((w.alloc (.cells kp 34)).alloc (.cells kq 34)).heap[w.heap.size]? = some (.cells kp 34 (0, 0)) := hp2_0 w _ _
  have rp1 : ((w.alloc (.cells kp 34)).alloc (.cells kq 34)).heap[w.heap.size + 1]? = some (.cells kq 34 (0, 0)) := hp2_1 w _ _
  have hw : Below w.heap.size w ((w.alloc (.cells kp 34)).alloc (.cells kq 34)) := (((Below.refl _ _).alloc (Nat.le_refl _) _).alloc (by simp) _)
  have f4 : Four ((w.alloc (.cells kp 34)).alloc (.cells kq 34)) := ((hF.alloc _).alloc _)
  generalize ((w.alloc (.cells kp 34)).alloc (.cells kq 34)) = w0 at *
  refine wp_region_alloc_ex 8 12 [7, 8, 9, 10] (fun t => match t with | 7 => .cells #[.int .u64 0, .int .u64 0, .int .u64 0, .int .u64 0, .int .u64 0] 26 (0, 0) | 8 => .cells #[.int .u64 0, .int .u64 0, .int .u64 0, .int .u64 0, .int .u64 0] 26 (0, 0) | 9 => .cells #[.int .u64 0, .int .u64 0, .int .u64 0, .int .u64 0, .int .u64 0, .int .u64 0, .int .u64 0, .int .u64 0, .int .u64 0, .int .u64 0, .int .u64 0, .int .u64 0, .int .u64 0, .int .u64 0, .int .u64 0, .int .u64 0] 30 (0, 0) | _ => .cells #[.int .u64 0, .int .u64 0, .int .u64 0, .int .u64 0, .int .u64 0, .int .u64 0, .int .u64 0, .int .u64 0, .int .u64 0, .int .u64 0, .int .u64 0, .int .u64 0, .int .u64 0, .int .u64 0, .int .u64 0, .int .u64 0] 30 (0, 0)) (by kernel_rfl) (by decide) (by decide) (by kernel_rfl) (by kernel_rfl) (by kernel_rfl) (by kernel_rfl) (by kernel_rfl) (by kernel_rfl) (by kernel_rfl) (by kernel_rfl) (by decide) (by decide) ?_ ?_
  · intro s l u
    rcases (by omega : s = 8 ∨ s = 9 ∨ s = 10 ∨ s = 11) with rfl | rfl | rfl | rfl <;> exact ⟨_, _, rfl, rfl, rfl, rfl, fun a w => by kernel_rfl⟩
  apply Exists.intro
  constructor
  · intro v1 hb
    have Hrp0 := keepr (keep hb rp0)
    have Hrp1 := keepr (keep hb rp1)
    have F4 := f4.below hb
    clear hb; dsimp only [List.take]
    refine wpQuiet_load_row rfl 34 _ rfl (w.heap.size) rfl 34 kp (0, 0) _ Hrp0.out Tryd.underlying34 rfl hkp.info ?_
    simp only [Act.put, List.setIfInBounds_toArray, List.set_cons_succ, List.set_cons_zero]
    go_big_quiet_step (exact cp.re)
    refine wpQuiet_load_row rfl 34 _ rfl (w.heap.size + 1) rfl 34 kq (0, 0) _ Hrp1.out Tryd.underlying34 rfl hkq.info ?_
    simp only [Act.put, List.setIfInBounds_toArray, List.set_cons_succ, List.set_cons_zero]
    go_big_quiet_step (exact cq.re)
    refine wpQuiet_load_row rfl 34 _ rfl (w.heap.size) rfl 34 kp (0, 0) _ Hrp0.out Tryd.underlying34 rfl hkp.info ?_
    simp only [Act.put, List.setIfInBounds_toArray, List.set_cons_succ, List.set_cons_zero]
    go_big_quiet_step (exact dp.re)
    refine wpQuiet_load_row rfl 34 _ rfl (w.heap.size + 1) rfl 34 kq (0, 0) _ Hrp1.out Tryd.underlying34 rfl hkq.info ?_
    simp only [Act.put, List.setIfInBounds_toArray, List.set_cons_succ, List.set_cons_zero]
    go_big_quiet_step (exact dq.re)
    refine wpQuiet_nil ?_
    rfl
  intro w6 g hb hg hd
  obtain ⟨lg7, rg7⟩ := hg 7 (by simp)
  replace rg7 : w6.heap[g 7]? = some (.cells #[.int .u64 0, .int .u64 0, .int .u64 0, .int .u64 0, .int .u64 0] 26 (0, 0)) := rg7
  obtain ⟨lg8, rg8⟩ := hg 8 (by simp)
  replace rg8 : w6.heap[g 8]? = some (.cells #[.int .u64 0, .int .u64 0, .int .u64 0, .int .u64 0, .int .u64 0] 26 (0, 0)) := rg8
  obtain ⟨lg9, rg9⟩ := hg 9 (by simp)
  replace rg9 : w6.heap[g 9]? = some (.cells #[.int .u64 0, .int .u64 0, .int .u64 0, .int .u64 0, .int .u64 0, .int .u64 0, .int .u64 0, .int .u64 0, .int .u64 0, .int .u64 0, .int .u64 0, .int .u64 0, .int .u64 0, .int .u64 0, .int .u64 0, .int .u64 0] 30 (0, 0)) := rg9
  obtain ⟨lg10, rg10⟩ := hg 10 (by simp)
  replace rg10 : w6.heap[g 10]? = some (.cells #[.int .u64 0, .int .u64 0, .int .u64 0, .int .u64 0, .int .u64 0, .int .u64 0, .int .u64 0, .int .u64 0, .int .u64 0, .int .u64 0, .int .u64 0, .int .u64 0, .int .u64 0, .int .u64 0, .int .u64 0, .int .u64 0] 30 (0, 0)) := rg10
  simp only [List.drop, puts, ptrs, List.map, List.foldl, Act.put, List.setIfInBounds_toArray, List.set_cons_succ, List.set_cons_zero]
  have d8_7 := hd 8 (by simp) 7 (by simp) (by decide)
  have d9_7 := hd 9 (by simp) 7 (by simp) (by decide)
  have d9_8 := hd 9 (by simp) 8 (by simp) (by decide)
  have d10_7 := hd 10 (by simp) 7 (by simp) (by decide)
  have d10_8 := hd 10 (by simp) 8 (by simp) (by decide)
  have d10_9 := hd 10 (by simp) 9 (by simp) (by decide)
  clear hg hd
  generalize g 7 = ga at *
  generalize g 8 = gb at *
  generalize g 9 = gx at *
  generalize g 10 = gy at *
  have lrp0 := lt_of_row rp0
  have lrp1 := lt_of_row rp1
  have hs := hw.size
  have hz := f4.1
  replace rp0 := keep hb rp0
  replace rp1 := keep hb rp1
  replace hw := Below.after hw hb
  replace f4 := f4.below hb
  clear hb
  refine wpList_store_row rfl 26 _ _ rfl ga rp rfl rfl 26 _ rg7 hp.info (hp.fits rfl) hp.one ?_
  simp only [Act.put]
  replace rp0 := (setRow_other w6 ga (w.heap.size) rp (by omega)).trans rp0
  replace rp1 := (setRow_other w6 ga (w.heap.size + 1) rp (by omega)).trans rp1
  replace rg7 := setRow_heap w6 ga _ rp _ _ rg7
  replace rg8 := (setRow_other w6 ga gb rp (by omega)).trans rg8
  replace rg9 := (setRow_other w6 ga gx rp (by omega)).trans rg9
  replace rg10 := (setRow_other w6 ga gy rp (by omega)).trans rg10
  replace hw := below_setRow hw (show w.heap.size ≤ ga by omega) rp
  replace f4 := f4.setRow (show 0 < ga by omega) rp
  generalize w6.setRow ga rp = w7 at *
  refine wpList_store_row rfl 26 _ _ rfl gb rq rfl rfl 26 _ rg8 hq.info (hq.fits rfl) hq.one ?_
  simp only [Act.put]
  replace rp0 := (setRow_other w7 gb (w.heap.size) rq (by omega)).trans rp0
  replace rp1 := (setRow_other w7 gb (w.heap.size + 1) rq (by omega)).trans rp1
  replace rg7 := (setRow_other w7 gb ga rq (by omega)).trans rg7
  replace rg8 := setRow_heap w7 gb _ rq _ _ rg8
  replace rg9 := (setRow_other w7 gb gx rq (by omega)).trans rg9
  replace rg10 := (setRow_other w7 gb gy rq (by omega)).trans rg10
  replace hw := below_setRow hw (show w.heap.size ≤ gb by omega) rq
  replace f4 := f4.setRow (show 0 < gb by omega) rq
  generalize w7.setRow gb rq = w8 at *
  refine wpList_store_row rfl 30 _ _ rfl gx (rd mp) rfl rfl 30 _ rg9 (rd_info mp) rfl (rd_one mp) ?_
  simp only [Act.put]
  replace rp0 := (setRow_other w8 gx (w.heap.size) (rd mp) (by omega)).trans rp0
  replace rp1 := (setRow_other w8 gx (w.heap.size + 1) (rd mp) (by omega)).trans rp1
  replace rg7 := (setRow_other w8 gx ga (rd mp) (by omega)).trans rg7
  replace rg8 := (setRow_other w8 gx gb (rd mp) (by omega)).trans rg8
  replace rg9 := setRow_heap w8 gx _ (rd mp) _ _ rg9
  replace rg10 := (setRow_other w8 gx gy (rd mp) (by omega)).trans rg10
  replace hw := below_setRow hw (show w.heap.size ≤ gx by omega) (rd mp)
  replace f4 := f4.setRow (show 0 < gx by omega) (rd mp)
  generalize w8.setRow gx (rd mp) = w9 at *
  refine wpList_store_row rfl 30 _ _ rfl gy (rd mq) rfl rfl 30 _ rg10 (rd_info mq) rfl (rd_one mq) ?_
  simp only [Act.put]
  replace rp0 := (setRow_other w9 gy (w.heap.size) (rd mq) (by omega)).trans rp0
  replace rp1 := (setRow_other w9 gy (w.heap.size + 1) (rd mq) (by omega)).trans rp1
  replace rg7 := (setRow_other w9 gy ga (rd mq) (by omega)).trans rg7
  replace rg8 := (setRow_other w9 gy gb (rd mq) (by omega)).trans rg8
  replace rg9 := (setRow_other w9 gy gx (rd mq) (by omega)).trans rg9
  replace rg10 := setRow_heap w9 gy _ (rd mq) _ _ rg10
  replace hw := below_setRow hw (show w.heap.size ≤ gy by omega) (rd mq)
  replace f4 := f4.setRow (show 0 < gy by omega) (rd mq)
  generalize w9.setRow gy (rd mq) = w10 at *
  clear hs hz lrp0 lrp1 lg7 lg8 lg9 lg10 d8_7 d9_7 d9_8 d10_7 d10_8 d10_9
  go_wp2
  have Hrp0 := keepr rp0
  have Hrp1 := keepr rp1
  have Hrg7 := keepr rg7
  have Hrg8 := keepr rg8
  have Hrg9 := keepr rg9
  have Hrg10 := keepr rg10
  refine wp_region_quiet_below (by kernel_rfl) (by kernel_rfl) ?_
  refine wpQuiet_load_row rfl 26 _ rfl (ga) rfl 26 rp (0, 0) _ Hrg7.out Tryd.underlying26 rfl hp.info ?_
  simp only [Act.put, List.setIfInBounds_toArray, List.set_cons_succ, List.set_cons_zero]
  refine wpQuiet_load_row rfl 26 _ rfl (gb) rfl 26 rq (0, 0) _ Hrg8.out Tryd.underlying26 rfl hq.info ?_
  simp only [Act.put, List.setIfInBounds_toArray, List.set_cons_succ, List.set_cons_zero]
  go_big_quiet_step (exact c12.re)
  go_big_quiet_step (exact c13.re)
  refine wpQuiet_load_row rfl 30 _ rfl (gx) rfl 30 (rd mp) (0, 0) _ Hrg9.out Tryd.underlying30 rfl (rd_info mp) ?_
  simp only [Act.put, List.setIfInBounds_toArray, List.set_cons_succ, List.set_cons_zero]
  refine wpQuiet_load_row rfl 30 _ rfl (gy) rfl 30 (rd mq) (0, 0) _ Hrg10.out Tryd.underlying30 rfl (rd_info mq) ?_
  simp only [Act.put, List.setIfInBounds_toArray, List.set_cons_succ, List.set_cons_zero]
  go_big_quiet_step (exact c14.re)
  go_big_quiet_step (exact c15.re)
  go_big_quiet_step (fail)
  go_big_quiet_step (fail)
  refine wpQuiet_load_want rfl 26 _ rfl (ga) rfl 26 rp (0, 0) _ Hrg7.out Tryd.underlying26 rfl hp.info ?_
  simp only [Act.put, List.setIfInBounds_toArray, List.set_cons_succ, List.set_cons_zero]
  refine wpQuiet_load_want rfl 26 _ rfl (gb) rfl 26 rq (0, 0) _ Hrg8.out Tryd.underlying26 rfl hq.info ?_
  simp only [Act.put, List.setIfInBounds_toArray, List.set_cons_succ, List.set_cons_zero]
  go_big_quiet_step (exact c16.re f4)
  go_big_quiet_step (exact c17.re)
  refine wpQuiet_load_want rfl 30 _ rfl (gx) rfl 30 (rd mp) (0, 0) _ Hrg9.out Tryd.underlying30 rfl (rd_info mp) ?_
  simp only [Act.put, List.setIfInBounds_toArray, List.set_cons_succ, List.set_cons_zero]
  refine wpQuiet_load_want rfl 30 _ rfl (gy) rfl 30 (rd mq) (0, 0) _ Hrg10.out Tryd.underlying30 rfl (rd_info mq) ?_
  simp only [Act.put, List.setIfInBounds_toArray, List.set_cons_succ, List.set_cons_zero]
  go_big_quiet_step (exact c18.re)
  go_big_quiet_step (exact c19.re)
  go_big_quiet_step (fail)
  go_big_quiet_step (fail)
  go_big_quiet_step (fail)
  refine wpQuiet_load_want rfl 26 _ rfl (ga) rfl 26 rp (0, 0) _ Hrg7.out Tryd.underlying26 rfl hp.info ?_
  simp only [Act.put, List.setIfInBounds_toArray, List.set_cons_succ, List.set_cons_zero]
  refine wpQuiet_load_want rfl 26 _ rfl (gb) rfl 26 rq (0, 0) _ Hrg8.out Tryd.underlying26 rfl hq.info ?_
  simp only [Act.put, List.setIfInBounds_toArray, List.set_cons_succ, List.set_cons_zero]
  go_big_quiet_step (exact c20.re)
  go_big_quiet_step (exact c21.re)
  refine wpQuiet_load_want rfl 30 _ rfl (gx) rfl 30 (rd mp) (0, 0) _ Hrg9.out Tryd.underlying30 rfl (rd_info mp) ?_
  simp only [Act.put, List.setIfInBounds_toArray, List.set_cons_succ, List.set_cons_zero]
  refine wpQuiet_load_want rfl 30 _ rfl (gy) rfl 30 (rd mq) (0, 0) _ Hrg10.out Tryd.underlying30 rfl (rd_info mq) ?_
  simp only [Act.put, List.setIfInBounds_toArray, List.set_cons_succ, List.set_cons_zero]
  go_big_quiet_step (exact c22.re)
  go_big_quiet_step (exact c23.re)
  go_big_quiet_step (fail)
  go_big_quiet_step (fail)
  refine wpQuiet_nil ?_
  rintro _ ⟨p, rfl⟩
  have hb := below_regrown w10 p.d p.os
  generalize grow (redrawn w10 p.d) p.os = w11 at *
  replace rp0 := keep hb rp0
  replace rp1 := keep hb rp1
  replace rg7 := keep hb rg7
  replace rg8 := keep hb rg8
  replace rg9 := keep hb rg9
  replace rg10 := keep hb rg10
  replace hw := Below.after hw hb
  replace f4 := f4.below hb
  clear hb
  clear Hrp0 Hrp1 Hrg7 Hrg8 Hrg9 Hrg10
  go_wp2
  have Hrp0 := keepr rp0
  have Hrp1 := keepr rp1
  have Hrg7 := keepr rg7
  have Hrg8 := keepr rg8
  have Hrg9 := keepr rg9
  have Hrg10 := keepr rg10
  refine wp_region_quiet_below (by kernel_rfl) (by kernel_rfl) ?_
  refine wpQuiet_load_row rfl 26 _ rfl (ga) rfl 26 rp (0, 0) _ Hrg7.out Tryd.underlying26 rfl hp.info ?_
  simp only [Act.put, List.setIfInBounds_toArray, List.set_cons_succ, List.set_cons_zero]
  go_big_quiet_step (exact c25.re f4)
  go_big_quiet_step (exact c26.re)
  refine wpQuiet_load_row rfl 30 _ rfl (gx) rfl 30 (rd mp) (0, 0) _ Hrg9.out Tryd.underlying30 rfl (rd_info mp) ?_
  simp only [Act.put, List.setIfInBounds_toArray, List.set_cons_succ, List.set_cons_zero]
  go_big_quiet_step (exact c27.re)
  go_big_quiet_step (exact c28.re)
  go_big_quiet_step (fail)
  go_big_quiet_step (fail)
  refine wpQuiet_load_want rfl 26 _ rfl (ga) rfl 26 rp (0, 0) _ Hrg7.out Tryd.underlying26 rfl hp.info ?_
  simp only [Act.put, List.setIfInBounds_toArray, List.set_cons_succ, List.set_cons_zero]
  go_big_quiet_step (exact c29.re)
  go_big_quiet_step (exact c30.re)
  refine wpQuiet_load_want rfl 30 _ rfl (gx) rfl 30 (rd mp) (0, 0) _ Hrg9.out Tryd.underlying30 rfl (rd_info mp) ?_
  simp only [Act.put, List.setIfInBounds_toArray, List.set_cons_succ, List.set_cons_zero]
  go_big_quiet_step (exact c31.re)
  go_big_quiet_step (exact c32.re)
  go_big_quiet_step (fail)
  go_big_quiet_step (fail)
  refine wpQuiet_nil ?_
  rintro _ ⟨p, rfl⟩
  have hb := below_regrown w11 p.d p.os
  generalize grow (redrawn w11 p.d) p.os = w24 at *
  replace rp0 := keep hb rp0
  replace rp1 := keep hb rp1
  replace rg7 := keep hb rg7
  replace rg8 := keep hb rg8
  replace rg9 := keep hb rg9
  replace rg10 := keep hb rg10
  replace hw := Below.after hw hb
  replace f4 := f4.below hb
  clear hb
  clear Hrp0 Hrp1 Hrg7 Hrg8 Hrg9 Hrg10
  go_wp2_with (first | (refine wpList_load_want rfl 34 _ rfl (w.heap.size) rfl 34 kp (0, 0) _ rp0 Tryd.underlying34 rfl hkp.info ?_) | (refine wpList_load_want rfl 34 _ rfl (w.heap.size + 1) rfl 34 kq (0, 0) _ rp1 Tryd.underlying34 rfl hkq.info ?_) | (refine wpList_load_want rfl 26 _ rfl (ga) rfl 26 rp (0, 0) _ rg7 Tryd.underlying26 rfl hp.info ?_) | (refine wpList_load_want rfl 26 _ rfl (gb) rfl 26 rq (0, 0) _ rg8 Tryd.underlying26 rfl hq.info ?_) | (refine wpList_load_want rfl 30 _ rfl (gx) rfl 30 (rd mp) (0, 0) _ rg9 Tryd.underlying30 rfl (rd_info mp) ?_) | (refine wpList_load_want rfl 30 _ rfl (gy) rfl 30 (rd mq) (0, 0) _ rg10 Tryd.underlying30 rfl (rd_info mq) ?_) | fail)
  refine (cS.at _).mono ?_
  rintro e w34 ⟨rfl, hb⟩
  replace rp0 := keep hb rp0
  replace rp1 := keep hb rp1
  replace rg7 := keep hb rg7
  replace rg8 := keep hb rg8
  replace rg9 := keep hb rg9
  replace rg10 := keep hb rg10
  replace hw := Below.after hw hb
  replace f4 := f4.below hb
  clear hb
  go_wp2_with (first | (refine wpList_store_row rfl 26 _ _ rfl (w34.heap.size) sp rfl rfl 26 #[.int .u64 0, .int .u64 0, .int .u64 0, .int .u64 0, .int .u64 0] (hp2_0 w34 _ _) hsp.info (hsp.fits rfl) hsp.one ?_; rw [setRow_alloc_old _ _ _ _ (by simp), setRow_alloc_new _ _ _ _ _ _ (by simp)]) | (refine wpList_store_row rfl 26 _ _ rfl (w34.heap.size + 1) sq rfl rfl 26 #[.int .u64 0, .int .u64 0, .int .u64 0, .int .u64 0, .int .u64 0] (hp2_1 w34 _ _) hsq.info (hsq.fits rfl) hsq.one ?_; rw [setRow_alloc_new _ _ _ _ _ _ (by simp)]) | (refine wpList_load_want rfl 34 _ rfl (w.heap.size) rfl 34 kp (0, 0) _ (keep (((Below.refl _ _).alloc (Nat.le_refl _) _).alloc (by simp) _) rp0) Tryd.underlying34 rfl hkp.info ?_) | (refine wpList_load_want rfl 34 _ rfl (w.heap.size + 1) rfl 34 kq (0, 0) _ (keep (((Below.refl _ _).alloc (Nat.le_refl _) _).alloc (by simp) _) rp1) Tryd.underlying34 rfl hkq.info ?_) | (refine wpList_load_want rfl 26 _ rfl (ga) rfl 26 rp (0, 0) _ (keep (((Below.refl _ _).alloc (Nat.le_refl _) _).alloc (by simp) _) rg7) Tryd.underlying26 rfl hp.info ?_) | (refine wpList_load_want rfl 26 _ rfl (gb) rfl 26 rq (0, 0) _ (keep (((Below.refl _ _).alloc (Nat.le_refl _) _).alloc (by simp) _) rg8) Tryd.underlying26 rfl hq.info ?_) | (refine wpList_load_want rfl 30 _ rfl (gx) rfl 30 (rd mp) (0, 0) _ (keep (((Below.refl _ _).alloc (Nat.le_refl _) _).alloc (by simp) _) rg9) Tryd.underlying30 rfl (rd_info mp) ?_) | (refine wpList_load_want rfl 30 _ rfl (gy) rfl 30 (rd mq) (0, 0) _ (keep (((Below.refl _ _).alloc (Nat.le_refl _) _).alloc (by simp) _) rg10) Tryd.underlying30 rfl (rd_info mq) ?_) | fail)
  have rl11 : ((w34.alloc (.cells sp 26)).alloc (.cells sq 26)).heap[w34.heap.size]? = some (.cells sp 26 (0, 0)) := hp2_0 w34 _ _
  have rl12 : ((w34.alloc (.cells sp 26)).alloc (.cells sq 26)).heap[w34.heap.size + 1]? = some (.cells sq 26 (0, 0)) := hp2_1 w34 _ _
  have hb : Below w34.heap.size w34 ((w34.alloc (.cells sp 26)).alloc (.cells sq 26)) := (((Below.refl _ _).alloc (Nat.le_refl _) _).alloc (by simp) _)
  generalize ((w34.alloc (.cells sp 26)).alloc (.cells sq 26)) = wy at *
  replace rp0 := keep hb rp0
  replace rp1 := keep hb rp1
  replace rg7 := keep hb rg7
  replace rg8 := keep hb rg8
  replace rg9 := keep hb rg9
  replace rg10 := keep hb rg10
  replace hw := Below.after hw hb
  replace f4 := f4.below hb
  clear hb
  generalize w34.heap.size = gs at *
  clear w34
  refine (dS.at _).mono ?_
  rintro e w36 ⟨rfl, hb⟩
  replace rp0 := keep hb rp0
  replace rp1 := keep hb rp1
  replace rg7 := keep hb rg7
  replace rg8 := keep hb rg8
  replace rg9 := keep hb rg9
  replace rg10 := keep hb rg10
  replace rl11 := keep hb rl11
  replace rl12 := keep hb rl12
  replace hw := Below.after hw hb
  replace f4 := f4.below hb
  clear hb
  go_wp2_with (first | (refine wpList_store_row rfl 30 _ _ rfl (w36.heap.size) (rd up) rfl rfl 30 #[.int .u64 0, .int .u64 0, .int .u64 0, .int .u64 0, .int .u64 0, .int .u64 0, .int .u64 0, .int .u64 0, .int .u64 0, .int .u64 0, .int .u64 0, .int .u64 0, .int .u64 0, .int .u64 0, .int .u64 0, .int .u64 0] (hp2_0 w36 _ _) (rd_info up) rfl (rd_one up) ?_; rw [setRow_alloc_old _ _ _ _ (by simp), setRow_alloc_new _ _ _ _ _ _ (by simp)]) | (refine wpList_store_row rfl 30 _ _ rfl (w36.heap.size + 1) (rd uq) rfl rfl 30 #[.int .u64 0, .int .u64 0, .int .u64 0, .int .u64 0, .int .u64 0, .int .u64 0, .int .u64 0, .int .u64 0, .int .u64 0, .int .u64 0, .int .u64 0, .int .u64 0, .int .u64 0, .int .u64 0, .int .u64 0, .int .u64 0] (hp2_1 w36 _ _) (rd_info uq) rfl (rd_one uq) ?_; rw [setRow_alloc_new _ _ _ _ _ _ (by simp)]) | (refine wpList_load_want rfl 34 _ rfl (w.heap.size) rfl 34 kp (0, 0) _ (keep (((Below.refl _ _).alloc (Nat.le_refl _) _).alloc (by simp) _) rp0) Tryd.underlying34 rfl hkp.info ?_) | (refine wpList_load_want rfl 34 _ rfl (w.heap.size + 1) rfl 34 kq (0, 0) _ (keep (((Below.refl _ _).alloc (Nat.le_refl _) _).alloc (by simp) _) rp1) Tryd.underlying34 rfl hkq.info ?_) | (refine wpList_load_want rfl 26 _ rfl (ga) rfl 26 rp (0, 0) _ (keep (((Below.refl _ _).alloc (Nat.le_refl _) _).alloc (by simp) _) rg7) Tryd.underlying26 rfl hp.info ?_) | (refine wpList_load_want rfl 26 _ rfl (gb) rfl 26 rq (0, 0) _ (keep (((Below.refl _ _).alloc (Nat.le_refl _) _).alloc (by simp) _) rg8) Tryd.underlying26 rfl hq.info ?_) | (refine wpList_load_want rfl 30 _ rfl (gx) rfl 30 (rd mp) (0, 0) _ (keep (((Below.refl _ _).alloc (Nat.le_refl _) _).alloc (by simp) _) rg9) Tryd.underlying30 rfl (rd_info mp) ?_) | (refine wpList_load_want rfl 30 _ rfl (gy) rfl 30 (rd mq) (0, 0) _ (keep (((Below.refl _ _).alloc (Nat.le_refl _) _).alloc (by simp) _) rg10) Tryd.underlying30 rfl (rd_info mq) ?_) | (refine wpList_load_want rfl 26 _ rfl (gs) rfl 26 sp (0, 0) _ (keep (((Below.refl _ _).alloc (Nat.le_refl _) _).alloc (by simp) _) rl11) Tryd.underlying26 rfl hsp.info ?_) | (refine wpList_load_want rfl 26 _ rfl (gs + 1) rfl 26 sq (0, 0) _ (keep (((Below.refl _ _).alloc (Nat.le_refl _) _).alloc (by simp) _) rl12) Tryd.underlying26 rfl hsq.info ?_) | fail)
  have rl13 : ((w36.alloc (.cells (rd up) 30)).alloc (.cells (rd uq) 30)).heap[w36.heap.size]? = some (.cells (rd up) 30 (0, 0)) := hp2_0 w36 _ _
  have rl14 : ((w36.alloc (.cells (rd up) 30)).alloc (.cells (rd uq) 30)).heap[w36.heap.size + 1]? = some (.cells (rd uq) 30 (0, 0)) := hp2_1 w36 _ _
  have hb : Below w36.heap.size w36 ((w36.alloc (.cells (rd up) 30)).alloc (.cells (rd uq) 30)) := (((Below.refl _ _).alloc (Nat.le_refl _) _).alloc (by simp) _)
  generalize ((w36.alloc (.cells (rd up) 30)).alloc (.cells (rd uq) 30)) = wz at *
  replace rp0 := keep hb rp0
  replace rp1 := keep hb rp1
  replace rg7 := keep hb rg7
  replace rg8 := keep hb rg8
  replace rg9 := keep hb rg9
  replace rg10 := keep hb rg10
  replace rl11 := keep hb rl11
  replace rl12 := keep hb rl12
  replace hw := Below.after hw hb
  replace f4 := f4.below hb
  clear hb
  generalize w36.heap.size = gt at *
  clear w36
  refine (c37.at _).mono ?_
  rintro e w38 ⟨rfl, hb⟩
  replace rp0 := keep hb rp0
  replace rp1 := keep hb rp1
  replace rg7 := keep hb rg7
  replace rg8 := keep hb rg8
  replace rg9 := keep hb rg9
  replace rg10 := keep hb rg10
  replace rl11 := keep hb rl11
  replace rl12 := keep hb rl12
  replace rl13 := keep hb rl13
  replace rl14 := keep hb rl14
  replace hw := Below.after hw hb
  replace f4 := f4.below hb
  clear hb
  go_wp2_with (first | (refine wpList_load_want rfl 34 _ rfl (w.heap.size) rfl 34 kp (0, 0) _ rp0 Tryd.underlying34 rfl hkp.info ?_) | (refine wpList_load_want rfl 34 _ rfl (w.heap.size + 1) rfl 34 kq (0, 0) _ rp1 Tryd.underlying34 rfl hkq.info ?_) | (refine wpList_load_want rfl 26 _ rfl (ga) rfl 26 rp (0, 0) _ rg7 Tryd.underlying26 rfl hp.info ?_) | (refine wpList_load_want rfl 26 _ rfl (gb) rfl 26 rq (0, 0) _ rg8 Tryd.underlying26 rfl hq.info ?_) | (refine wpList_load_want rfl 30 _ rfl (gx) rfl 30 (rd mp) (0, 0) _ rg9 Tryd.underlying30 rfl (rd_info mp) ?_) | (refine wpList_load_want rfl 30 _ rfl (gy) rfl 30 (rd mq) (0, 0) _ rg10 Tryd.underlying30 rfl (rd_info mq) ?_) | (refine wpList_load_want rfl 26 _ rfl (gs) rfl 26 sp (0, 0) _ rl11 Tryd.underlying26 rfl hsp.info ?_) | (refine wpList_load_want rfl 26 _ rfl (gs + 1) rfl 26 sq (0, 0) _ rl12 Tryd.underlying26 rfl hsq.info ?_) | (refine wpList_load_want rfl 30 _ rfl (gt) rfl 30 (rd up) (0, 0) _ rl13 Tryd.underlying30 rfl (rd_info up) ?_) | (refine wpList_load_want rfl 30 _ rfl (gt + 1) rfl 30 (rd uq) (0, 0) _ rl14 Tryd.underlying30 rfl (rd_info uq) ?_) | fail)
  refine (c39.at _).mono ?_
  rintro e w40 ⟨rfl, hb⟩
  replace rp0 := keep hb rp0
  replace rp1 := keep hb rp1
  replace rg7 := keep hb rg7
  replace rg8 := keep hb rg8
  replace rg9 := keep hb rg9
  replace rg10 := keep hb rg10
  replace rl11 := keep hb rl11
  replace rl12 := keep hb rl12
  replace rl13 := keep hb rl13
  replace rl14 := keep hb rl14
  replace hw := Below.after hw hb
  replace f4 := f4.below hb
  clear hb
  go_wp2
  go_ret
  exact ⟨rfl, hw⟩

end Go.Proofs.YtcjdglckbkdheaaDoor

