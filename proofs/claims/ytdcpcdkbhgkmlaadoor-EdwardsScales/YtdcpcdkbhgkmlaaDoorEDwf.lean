import Derived.Test.YtdcpcdkbhgkmlaaDoorProg
import Derived.WalkKit
import Derived.WalkSpells
import Derived.WalkLawsBesides
import Derived.Lib.QuietBelow
import Derived.BigQuiet
import Derived.Test.YtdcpcdkbhgkmlaaDoorEKa
import Derived.Test.YtdcpcdkbhgkmlaaDoorEDwe
import Derived.Test.YtdcpcdkbhgkmlaaDoorEGu
namespace Go.Proofs.YtdcpcdkbhgkmlaaDoor
set_option maxRecDepth 100000
open Go.RowKit Go.Sort
attribute [local go_sem] setCell_drewN alloc_drewN
theorem q_across (y:Int):((y*y-1)*121666*iv (121666-y*y*121665))%prm=qy y%prm:=by
 rw[←zp_sub]
 refine qy_is n121666 (zp_lin1 0 zp_zero (by grind)) _ ?_
 have:=ec1_eq
 generalize ec1=c at *
 exact zp_lin1 (y*y) this (by grind)
open Classical in
set_option maxRecDepth 100000 in
set_option maxHeartbeats 8000000 in
theorem a_across {yr:Array Value} {Y:Int} (hy:NumOf yr Y):∃s,NumOf s (rval (qy Y))∧Gives5 61 #[.agg yr] (.tuple #[.agg s,.bool (rok (qy Y))]):=by
 obtain⟨x1,h1,c1⟩:=a_square hy
 obtain⟨x4,h4,c4⟩:=a_small 1 (by decide) (by decide)
 obtain⟨x5,h5,c5⟩:=a_sub h1 h4
 obtain⟨x6,h6,c6⟩:=a_times h5 121666 (by decide) (by decide)
 obtain⟨x10,h10,c10⟩:=a_small 121666 (by decide) (by decide)
 obtain⟨x11,h11,c11⟩:=a_times h1 121665 (by decide) (by decide)
 obtain⟨x12,h12,c12⟩:=a_sub h10 h11;obtain⟨x15,h15,c15⟩:=a_inv h12;obtain⟨x16,h16,c16⟩:=a_mul h6 h15;obtain⟨s,hs,cR⟩:=a_root (h16.congr (q_across Y))
 refine⟨s,hs,fun w hF=>?_⟩
 generalize rok (qy Y)=O at *
 have rp0:((w.alloc (.cells yr 28)).alloc (.cells #[.int .u64 0,.int .u64 0,.int .u64 0,.int .u64 0,.int .u64 0] 28)).heap[w.heap.size]? =some (.cells yr 28 (0,0)):=hp2_0 w _ _;have rp1:((w.alloc (.cells yr 28)).alloc (.cells #[.int .u64 0,.int .u64 0,.int .u64 0,.int .u64 0,.int .u64 0] 28)).heap[w.heap.size+1]? =some (.cells #[.int .u64 0,.int .u64 0,.int .u64 0,.int .u64 0,.int .u64 0] 28 (0,0)):=hp2_1 w _ _
 have hw:Below w.heap.size w ((w.alloc (.cells yr 28)).alloc (.cells #[.int .u64 0,.int .u64 0,.int .u64 0,.int .u64 0,.int .u64 0] 28)):=(((Below.refl _ _).alloc (Nat.le_refl _) _).alloc (by simp) _)
 have hz0:=hF.sz;have f4:Both ((w.alloc (.cells yr 28)).alloc (.cells #[.int .u64 0,.int .u64 0,.int .u64 0,.int .u64 0,.int .u64 0] 28)):=((hF.alloc _).alloc _)
 go_enter Tryd.func61,Tryd.ntmps61
 iterate 12 go_step
 generalize ((w.alloc (.cells yr 28)).alloc (.cells #[.int .u64 0,.int .u64 0,.int .u64 0,.int .u64 0,.int .u64 0] 28))=w0 at *
 go_wp2_with (first|(refine wpList_load_want rfl 28 _ rfl (w.heap.size) rfl 28 yr (0,0) _ rp0 Tryd.underlying28 rfl hy.info ?_)|(refine wpList_load_want rfl 28 _ rfl (w.heap.size+1) rfl 28 #[.int .u64 0,.int .u64 0,.int .u64 0,.int .u64 0,.int .u64 0] (0,0) _ rp1 Tryd.underlying28 rfl num_zero.info ?_)|fail)
 refine(c1.at _).mono ?_;rintro e w2 ⟨rfl,hb⟩;replace rp0:=keep hb rp0;replace rp1:=keep hb rp1;replace hw:=Below.after hw hb;replace f4:=f4.below hb;clear hb
 go_wp2_with (first|(refine wpList_store_row rfl 28 _ _ rfl (w2.heap.size) x1 rfl rfl 28 #[.int .u64 0,.int .u64 0,.int .u64 0,.int .u64 0,.int .u64 0] (hp1_0 w2 _) h1.info (h1.fits rfl) h1.one ?_;rw[setRow_alloc_new _ _ _ _ _ _ (by simp)];refine wpList_stay ?_)|fail)
 unfold WpStay
 try simp only[Act.put]
 have rl4:(w2.alloc (.cells x1 28)).heap[w2.heap.size]? =some (.cells x1 28 (0,0)):=hp1_0 w2 _;have hb:Below w2.heap.size w2 (w2.alloc (.cells x1 28)):=((Below.refl _ _).alloc (Nat.le_refl _) _)
 generalize (w2.alloc (.cells x1 28))=ws at *
 have ygs_0:=lt_of_row rp0;have ygs_1:=lt_of_row rp1;have ygs:=hw.size;have zgs:=f4.sz;replace rp0:=keep hb rp0;replace rp1:=keep hb rp1;replace hw:=Below.after hw hb;replace f4:=f4.below hb;clear hb
 generalize w2.heap.size=gs at *
 clear w2
 go_wp2_with (fail)
 refine wp_region_alloc_ex 4 5 [5] (fun _=>.cells #[.int .u64 0,.int .u64 0,.int .u64 0,.int .u64 0,.int .u64 0] 28 (0,0)) (by kernel_rfl) (by decide) (by decide) (by kernel_rfl) (by kernel_rfl) (by kernel_rfl) (by kernel_rfl) (by kernel_rfl) (by kernel_rfl) (by kernel_rfl) (by kernel_rfl) (by decide) (by decide) ?_ ?_
 ·intro s l u
  rcases(by omega:s=4) with rfl<;>exact⟨_,_,rfl,rfl,rfl,rfl,fun a w=>by kernel_rfl⟩
 apply Exists.intro
 constructor
 ·intro v3 hb
  have Hrp0:=keepr (keep hb rp0)
  have Hrp1:=keepr (keep hb rp1);have Hrl4:=keepr (keep hb rl4);have F4:=f4.below hb;clear hb;dsimp only[List.take];refine wpQuiet_load_row rfl 28 _ rfl (gs) rfl 28 x1 (0,0) _ Hrl4.out Tryd.underlying28 rfl h1.info ?_;simp only[Act.put,ZPd,ZPe,ZPf];go_big_quiet_step (exact c4.re);go_big_quiet_step (exact c5.re F4.1);go_big_quiet_step (exact c6.re);refine wpQuiet_nil ?_;rfl
 intro w7 g hb hg hd
 obtain⟨lg5,rg5⟩:=hg 5 (by simp)
 replace rg5:w7.heap[g 5]? =some (.cells #[.int .u64 0,.int .u64 0,.int .u64 0,.int .u64 0,.int .u64 0] 28 (0,0)):=rg5;simp only[List.drop,puts,ptrs,List.map,List.foldl,Act.put,List.setIfInBounds_toArray,List.set_cons_succ,List.set_cons_zero];clear hg hd
 generalize g 5=gv at *
 have lrp0:=lt_of_row rp0;have lrp1:=lt_of_row rp1;have lrl4:=lt_of_row rl4;have hs:=hw.size;have hz:=f4.sz;replace rp0:=keep hb rp0;replace rp1:=keep hb rp1;replace rl4:=keep hb rl4;replace hw:=Below.after hw hb;replace f4:=f4.below hb;clear hb;refine wpList_store_row rfl 28 _ _ rfl gv x6 rfl rfl 28 _ rg5 h6.info (h6.fits rfl) h6.one ?_;simp only[Act.put]
 replace rp0:=(setRow_other w7 gv (w.heap.size) x6 (by omega)).trans rp0
 replace rp1:=(setRow_other w7 gv (w.heap.size+1) x6 (by omega)).trans rp1
 replace rl4:=(setRow_other w7 gv (gs) x6 (by omega)).trans rl4
 replace rg5:=setRow_heap w7 gv _ x6 _ _ rg5
 replace hw:=below_setRow hw (show w.heap.size≤gv by omega) x6
 replace f4:=f4.setRow (show 4<gv by omega) x6
 generalize w7.setRow gv x6=w8 at *
 have ygv_0:w.heap.size<gv:=by omega
 have ygv_1:w.heap.size+1<gv:=by omega
 have ygv_2:gs<gv:=by omega
 have ygv:w.heap.size≤gv:=by omega
 have zgv:4<gv:=by omega
 clear hs hz lrp0 lrp1 lrl4 lg5
 go_wp2
 refine wp_region_alloc_ex 4 5 [6] (fun _=>.cells #[.int .u64 0,.int .u64 0,.int .u64 0,.int .u64 0,.int .u64 0] 28 (0,0)) (by kernel_rfl) (by decide) (by decide) (by kernel_rfl) (by kernel_rfl) (by kernel_rfl) (by kernel_rfl) (by kernel_rfl) (by kernel_rfl) (by kernel_rfl) (by kernel_rfl) (by decide) (by decide) ?_ ?_
 ·intro s l u
  rcases(by omega:s=4) with rfl<;>exact⟨_,_,rfl,rfl,rfl,rfl,fun a w=>by kernel_rfl⟩
 apply Exists.intro
 constructor
 ·intro v9 hb
  have Hrp0:=keepr (keep hb rp0)
  have Hrp1:=keepr (keep hb rp1);have Hrl4:=keepr (keep hb rl4);have Hrg5:=keepr (keep hb rg5);have F4:=f4.below hb;clear hb;dsimp only[List.take];go_big_quiet_step (exact c10.re);refine wpQuiet_load_row rfl 28 _ rfl (gs) rfl 28 x1 (0,0) _ Hrl4.out Tryd.underlying28 rfl h1.info ?_;simp only[Act.put,ZPd,ZPe,ZPf];go_big_quiet_step (exact c11.re);go_big_quiet_step (exact c12.re F4.1);refine wpQuiet_nil ?_;rfl
 intro w13 g hb hg hd
 obtain⟨lg6,rg6⟩:=hg 6 (by simp)
 replace rg6:w13.heap[g 6]? =some (.cells #[.int .u64 0,.int .u64 0,.int .u64 0,.int .u64 0,.int .u64 0] 28 (0,0)):=rg6;simp only[List.drop,puts,ptrs,List.map,List.foldl,Act.put,List.setIfInBounds_toArray,List.set_cons_succ,List.set_cons_zero];clear hg hd
 generalize g 6=gu at *
 have lrp0:=lt_of_row rp0;have lrp1:=lt_of_row rp1;have lrl4:=lt_of_row rl4;have lrg5:=lt_of_row rg5;have hs:=hw.size;have hz:=f4.sz;replace rp0:=keep hb rp0;replace rp1:=keep hb rp1;replace rl4:=keep hb rl4;replace rg5:=keep hb rg5;replace hw:=Below.after hw hb;replace f4:=f4.below hb;clear hb;refine wpList_store_row rfl 28 _ _ rfl gu x12 rfl rfl 28 _ rg6 h12.info (h12.fits rfl) h12.one ?_;simp only[Act.put]
 replace rp0:=(setRow_other w13 gu (w.heap.size) x12 (by omega)).trans rp0
 replace rp1:=(setRow_other w13 gu (w.heap.size+1) x12 (by omega)).trans rp1
 replace rl4:=(setRow_other w13 gu (gs) x12 (by omega)).trans rl4
 replace rg5:=(setRow_other w13 gu (gv) x12 (by omega)).trans rg5
 replace rg6:=setRow_heap w13 gu _ x12 _ _ rg6
 replace hw:=below_setRow hw (show w.heap.size≤gu by omega) x12
 replace f4:=f4.setRow (show 4<gu by omega) x12
 generalize w13.setRow gu x12=w14 at *
 have ygu_0:w.heap.size<gu:=by omega
 have ygu_1:w.heap.size+1<gu:=by omega
 have ygu_2:gs<gu:=by omega
 have ygu_3:gv<gu:=by omega
 have ygu:w.heap.size≤gu:=by omega
 have zgu:4<gu:=by omega
 clear hs hz lrp0 lrp1 lrl4 lrg5 lg6
 go_wp2
 have hbd:Below w14.heap.size w14 w14.drew:=below_drN (Below.refl _ _) 1;replace rp0:=keep hbd rp0;replace rp1:=keep hbd rp1;replace rl4:=keep hbd rl4;replace rg5:=keep hbd rg5;replace rg6:=keep hbd rg6;replace hw:=Below.after hw hbd;replace f4:=f4.below hbd;clear hbd;refine wp_region_noPanic ?_
 refine wp_region_held (S:=fun W_=>W_.heap[gv]? =some (.cells x6 28 (0,0))∧W_.heap[gu]? =some (.cells x12 28 (0,0))) (by kernel_rfl) ?_
 change wpAnyH _ _ _ _ _ _ _ _ (World.drew _)
 generalize w14.drew=wd1 at *
 refine wpAnyH_take (i:=0) (v:=.agg x6) rfl (by kernel_rfl) (by kernel_rfl) (by kernel_rfl) (fun _ _ _ h=>h) (Or.inl ⟨by rfl,?y2⟩) (⟨rg5,rg6⟩) ?r2
 case y2=>
  intro w_ hS_;simp only[List.getElem_toArray,List.getElem_cons_zero]
  exact e_load_part 28 _ (by rfl) (gv) 0 (by rfl) 28 x6 (0,0) x6 _ (hS_.1) (all_rowe _) Tryd.underlying28 rfl h6.info
 simp only[Act.put,ZPa,ZPc,ZPd,ZPe,ZPf]
 refine wpAnyH_take (i:=1) (v:=.agg x12) rfl (by kernel_rfl) (by kernel_rfl) (by kernel_rfl) (fun _ _ _ h=>h) (Or.inl ⟨by rfl,?y3⟩) (⟨rg5,rg6⟩) ?r3
 case y3=>
  intro w_ hS_;simp only[List.getElem_toArray,List.getElem_cons_succ,List.getElem_cons_zero]
  exact e_load_part 28 _ (by rfl) (gu) 0 (by rfl) 28 x12 (0,0) x12 _ (hS_.2) (all_rowe _) Tryd.underlying28 rfl h12.info
 simp only[Act.put,ZPa,ZPb,ZPc,ZPd,ZPe,ZPf]
 refine eH_one (k:=2) (fuel:=6) (by kernel_rfl) rfl (by kernel_rfl) (fun K_ hK_=>?_)
 refine wp_call_ex (f:=41) (by kernel_rfl) (ex1e (c15.at _)) (fun v_ wq4 hX_=>?_)
 obtain⟨rfl,hb_⟩:=hX_;replace rp0:=keep hb_ rp0;replace rp1:=keep hb_ rp1;replace rl4:=keep hb_ rl4;replace rg5:=keep hb_ rg5;replace rg6:=keep hb_ rg6;replace hw:=Below.after hw hb_;replace f4:=f4.below hb_;clear hb_;refine hK_ _ _ (⟨rg5,rg6⟩) ?_;simp only[Act.put,ZPa,ZPb,ZPc,ZPd,ZPe,ZPf];clear hK_
 refine eH_one (k:=3) (fuel:=5) (by kernel_rfl) rfl (by kernel_rfl) (fun K_ hK_=>?_)
 refine wp_call_ex (f:=42) (by kernel_rfl) (ex1e (c16.at _)) (fun v_ wq5 hX_=>?_)
 obtain⟨rfl,hb_⟩:=hX_;replace rp0:=keep hb_ rp0;replace rp1:=keep hb_ rp1;replace rl4:=keep hb_ rl4;replace rg5:=keep hb_ rg5;replace rg6:=keep hb_ rg6;replace hw:=Below.after hw hb_;replace f4:=f4.below hb_;clear hb_;refine hK_ _ _ (⟨rg5,rg6⟩) ?_;simp only[Act.put,ZPa,ZPb,ZPc,ZPd,ZPe,ZPf];clear hK_
 refine eH_one (k:=4) (fuel:=4) (by kernel_rfl) rfl (by kernel_rfl) (fun K_ hK_=>?_)
 refine wp_call_ex (f:=93) (by kernel_rfl) (ex1e (cR.at f4)) (fun v_ wq6 hX_=>?_)
 obtain⟨rfl,hb_⟩:=hX_;replace rp0:=keep hb_ rp0;replace rp1:=keep hb_ rp1;replace rl4:=keep hb_ rl4;replace rg5:=keep hb_ rg5;replace rg6:=keep hb_ rg6;replace hw:=Below.after hw hb_;replace f4:=f4.below hb_;clear hb_;refine hK_ _ _ (⟨rg5,rg6⟩) ?_;simp only[Act.put,ZPa,ZPb,ZPc,ZPd,ZPe,ZPf];clear hK_
 refine wpAnyH_take (i:=5) (v:=?v7) rfl (by kernel_rfl) (by kernel_rfl) (by kernel_rfl) (fun _ _ _ h=>h) (Or.inl ⟨by rfl,?y7⟩) (⟨rg5,rg6⟩) ?r7
 case y7=>
  intro w_ hS_;go_simp
  try with_reducible rfl
 simp only[Act.put,ZPa,ZPb,ZPc,ZPd,ZPe,ZPf]
 refine wpAnyH_take (i:=6) (v:=?v8) rfl (by kernel_rfl) (by kernel_rfl) (by kernel_rfl) (fun _ _ _ h=>h) (Or.inl ⟨by rfl,?y8⟩) (⟨rg5,rg6⟩) ?r8
 case y8=>
  intro w_ hS_;go_simp
  try with_reducible rfl
 simp only[Act.put,ZPa,ZPb,ZPc,ZPd,ZPe,ZPf]
 refine eH_one (k:=7) (fuel:=1) (by kernel_rfl) rfl (by kernel_rfl) (fun K_ hK_=>?_)
 refine wp_store_row 28 _ _ rfl (w.heap.size+1) s rfl rfl 28 _ rp1 hs.info (num_zero.size.trans hs.size.symm) hs.one ?_
 replace rp0:=(setRow_other wq6 (w.heap.size+1) (w.heap.size) s (by first|assumption|omega)).trans rp0
 replace rl4:=(setRow_other wq6 (w.heap.size+1) (gs) s (by first|assumption|omega)).trans rl4
 replace rg5:=(setRow_other wq6 (w.heap.size+1) (gv) s (by first|assumption|omega)).trans rg5
 replace rg6:=(setRow_other wq6 (w.heap.size+1) (gu) s (by first|assumption|omega)).trans rg6
 replace rp1:=setRow_heap wq6 (w.heap.size+1) _ s _ _ rp1
 replace hw:=below_setRow hw (show w.heap.size≤w.heap.size+1 by first|assumption|omega) s
 replace f4:=f4.setRow (show 4<w.heap.size+1 by first|assumption|omega) s
 generalize wq6.setRow (w.heap.size+1) s=wq9 at *
 refine hK_ _ _ (⟨rg5,rg6⟩) ?_;simp only[Act.put];clear hK_
 refine wpAnyH_take (i:=8) (v:=?v10) rfl (by kernel_rfl) (by kernel_rfl) (by kernel_rfl) (fun _ _ _ h=>h) (Or.inl ⟨by rfl,?y10⟩) (⟨rg5,rg6⟩) ?r10
 case y10=>
  intro w_ hS_;go_simp
  try with_reducible rfl
 simp only[Act.put,ZPa,ZPb,ZPc,ZPd,ZPe,ZPf]
 refine wpAnyH_done (by kernel_rfl) ?_ _
 refine NoPanic.normal ?_
 go_wp2_with (fail)
 exact bodyPost_ret (v:=.tuple #[.agg s,.bool O]) (results_row_slot Tryd.results61 _ _ (w.heap.size+1) _ s _ _ _ rfl rp1 rfl Tryd.underlying28 rfl hs.info) rfl ⟨rfl,hw⟩
set_option maxRecDepth 100000 in
set_option maxHeartbeats 8000000 in
theorem beside_yes {yr:Array Value} {Y:Int} (hy:NumOf yr Y) {odd:Bool} (h:has Y odd=true) {P:E1} (ey:P.y=Y%prm) (ex:tx P=xo Y odd%prm):∃t,PtO t P∧Gives5 32 #[.agg yr,.bool odd] (.tuple #[.agg t,.int .i64 0]):=by
 have gx:Zp (xo Y odd-tx P):=by rw[ex];exact zp_lin1 (-1) (zp_emod (xo Y odd)) (by grind)
 have gy:Zp (Y-P.y):=by rw[ey];exact zp_lin1 (-1) (zp_emod Y) (by grind)
 have hO:rok (qy Y)=true:=by unfold has at h;rw[Bool.and_eq_true] at h;exact h.1
 obtain⟨s,hs,cA⟩:=a_across hy;rw[hO] at cA;have cZ:=a_isZero hs;obtain⟨x4,h4,c4⟩:=a_neg hs;obtain⟨x5,y5,h5,c5⟩:=a_sel hs h4 odd;obtain⟨x8,h8,c8⟩:=a_flat (P:=P) h5 hy gx gy;obtain⟨x10,h10,c10⟩:=a_point h8;refine⟨_,h10,?_⟩
 by_cases hz:rval (qy Y)%prm=0
 ·rw[decide_eq_true hz] at cZ
  obtain rfl:odd=false:=by
   revert h;unfold has;rw[hO,decide_eq_true hz];cases odd<;>simp
  intro w hF;have rp0:((w.alloc (.cells yr 28)).alloc (.cells q20 30)).heap[w.heap.size]? =some (.cells yr 28 (0,0)):=hp2_0 w _ _;have rp1:((w.alloc (.cells yr 28)).alloc (.cells q20 30)).heap[w.heap.size+1]? =some (.cells q20 30 (0,0)):=hp2_1 w _ _
  have hw:Below w.heap.size w ((w.alloc (.cells yr 28)).alloc (.cells q20 30)):=(((Below.refl _ _).alloc (Nat.le_refl _) _).alloc (by simp) _)
  have hz0:=hF.sz;have f4:Both ((w.alloc (.cells yr 28)).alloc (.cells q20 30)):=((hF.alloc _).alloc _)
  go_enter Tryd.func32,Tryd.ntmps32
  iterate 12 go_step
  generalize ((w.alloc (.cells yr 28)).alloc (.cells q20 30))=w0 at *
  go_wp2_with (first|(refine wpList_load_want rfl 28 _ rfl (w.heap.size) rfl 28 yr (0,0) _ rp0 Tryd.underlying28 rfl hy.info ?_)|(refine wpList_load_want rfl 30 _ rfl (w.heap.size+1) rfl 30 q20 (0,0) _ rp1 Tryd.underlying30 rfl (by kernel_rfl) ?_)|fail)
  refine(cA.at f4).mono ?_;rintro e w2 ⟨rfl,hb⟩;replace rp0:=keep hb rp0;replace rp1:=keep hb rp1;replace hw:=Below.after hw hb;replace f4:=f4.below hb;clear hb
  go_wp2_with (first|(refine wpList_store_row rfl 28 _ _ rfl (w2.heap.size) s rfl rfl 28 #[.int .u64 0,.int .u64 0,.int .u64 0,.int .u64 0,.int .u64 0] (hp1_0 w2 _) hs.info (hs.fits rfl) hs.one ?_;rw[setRow_alloc_new _ _ _ _ _ _ (by simp)];refine wpList_stay ?_)|fail)
  unfold WpStay
  try simp only[Act.put]
  have rl6:(w2.alloc (.cells s 28)).heap[w2.heap.size]? =some (.cells s 28 (0,0)):=hp1_0 w2 _;have hb:Below w2.heap.size w2 (w2.alloc (.cells s 28)):=((Below.refl _ _).alloc (Nat.le_refl _) _)
  generalize (w2.alloc (.cells s 28))=ws at *
  have ygs_0:=lt_of_row rp0;have ygs_1:=lt_of_row rp1;have ygs:=hw.size;have zgs:=f4.sz;replace rp0:=keep hb rp0;replace rp1:=keep hb rp1;replace hw:=Below.after hw hb;replace f4:=f4.below hb;clear hb
  generalize w2.heap.size=gs at *
  clear w2
  go_wp2_with (first|(refine wpList_load_want rfl 28 _ rfl (w.heap.size) rfl 28 yr (0,0) _ rp0 Tryd.underlying28 rfl hy.info ?_)|(refine wpList_load_want rfl 30 _ rfl (w.heap.size+1) rfl 30 q20 (0,0) _ rp1 Tryd.underlying30 rfl (by kernel_rfl) ?_)|(refine wpList_load_want rfl 28 _ rfl (gs) rfl 28 s (0,0) _ rl6 Tryd.underlying28 rfl hs.info ?_)|(refine wpList_build_as rfl 30 _ rfl [] rfl q20 (by kernel_rfl) ?_;refine wpList_stay ?_)|fail)
  refine(cZ.at _).mono ?_;rintro e w3 ⟨rfl,hb⟩;replace rp0:=keep hb rp0;replace rp1:=keep hb rp1;replace rl6:=keep hb rl6;replace hw:=Below.after hw hb;replace f4:=f4.below hb;clear hb
  go_wp2_with (fail)
  have Hrp0:=keepr rp0;have Hrp1:=keepr rp1;have Hrl6:=keepr rl6
  refine wp_region_tail2 (C:=fun w'=>∃p:Regrown,w'=grow (redrawn w3 p.d) p.os) 8 7 _ _ rfl rfl (.tmp 23) 1 rfl 30 rfl rfl 28 6 29 rfl (by decide) (by decide) rfl rfl (by kernel_rfl) (by kernel_rfl) (by kernel_rfl) (by kernel_rfl) ⟨⟨w3.drawn+1,#[]⟩,by rw[grow_empty];rfl⟩ ?_
  dsimp only[List.set,idle];refine wpQuiet_load_row rfl 28 _ rfl (gs) rfl 28 s (0,0) _ Hrl6.out Tryd.underlying28 rfl hs.info ?_;simp only[Act.put,ZPd,ZPe,ZPf];refine wpQuiet_load_row rfl 28 _ rfl (gs) rfl 28 s (0,0) _ Hrl6.out Tryd.underlying28 rfl hs.info ?_;simp only[Act.put,ZPd,ZPe,ZPf];go_big_quiet_step (exact c4.re f4.1);go_big_quiet_step (fail);go_big_quiet_step (exact c5.re);go_big_quiet_step (fail);go_big_quiet_step (fail);go_big_quiet_step (fail);refine wpQuiet_idle rfl rfl rfl ?_;rintro _ ⟨p,rfl⟩;have hb:=below_regrown w3 p.d p.os
  generalize grow (redrawn w3 p.d) p.os=w6 at *
  replace rp0:=keep hb rp0;replace rp1:=keep hb rp1;replace rl6:=keep hb rl6;replace hw:=Below.after hw hb;replace f4:=f4.below hb;clear hb;clear Hrp0 Hrp1 Hrl6;refine⟨_,run_store_op 28 _ _ rfl (gs) x5 rfl rfl 28 _ rl6 h5.info (hs.size.trans h5.size.symm) h5.one,?_⟩
  simp only[Exit.then]
  replace rp0:=(setRow_other w6 (gs) (w.heap.size) x5 (by first|assumption|omega)).trans rp0
  replace rp1:=(setRow_other w6 (gs) (w.heap.size+1) x5 (by first|assumption|omega)).trans rp1
  replace rl6:=setRow_heap w6 (gs) _ x5 _ _ rl6
  replace hw:=below_setRow hw (show w.heap.size≤gs by first|assumption|omega) x5
  replace f4:=f4.setRow (show 4<gs by first|assumption|omega) x5
  generalize w6.setRow (gs) x5=w7 at *
  go_wp2_with (first|(refine wpList_load_want rfl 28 _ rfl (w.heap.size) rfl 28 yr (0,0) _ rp0 Tryd.underlying28 rfl hy.info ?_)|(refine wpList_load_want rfl 30 _ rfl (w.heap.size+1) rfl 30 q20 (0,0) _ rp1 Tryd.underlying30 rfl (by kernel_rfl) ?_)|(refine wpList_load_want rfl 28 _ rfl (gs) rfl 28 x5 (0,0) _ rl6 Tryd.underlying28 rfl h5.info ?_)|fail)
  refine(c8.at _).mono ?_;rintro e w9 ⟨rfl,hb⟩;replace rp0:=keep hb rp0;replace rp1:=keep hb rp1;replace rl6:=keep hb rl6;replace hw:=Below.after hw hb;replace f4:=f4.below hb;clear hb
  go_wp2_with (first|(refine wpList_load_want rfl 28 _ rfl (w.heap.size) rfl 28 yr (0,0) _ rp0 Tryd.underlying28 rfl hy.info ?_)|(refine wpList_load_want rfl 30 _ rfl (w.heap.size+1) rfl 30 q20 (0,0) _ rp1 Tryd.underlying30 rfl (by kernel_rfl) ?_)|(refine wpList_load_want rfl 28 _ rfl (gs) rfl 28 x5 (0,0) _ rl6 Tryd.underlying28 rfl h5.info ?_)|fail)
  refine(c10.at f4.1).mono ?_;rintro e w11 ⟨rfl,hb⟩;replace rp0:=keep hb rp0;replace rp1:=keep hb rp1;replace rl6:=keep hb rl6;replace hw:=Below.after hw hb;replace f4:=f4.below hb;clear hb
  go_wp2_with (first|(refine wpList_build_as rfl 30 _ rfl [] rfl q20 (by kernel_rfl) ?_)|(refine wpList_store_row rfl 30 _ _ rfl (w.heap.size+1) x10 rfl rfl 30 _ rp1 h10.info ((show _=20 from rfl).trans h10.size.symm) h10.one ?_)|fail)
  exact bodyPost_ret (v:=.tuple #[.agg x10,.int .i64 0]) (results_row_slot Tryd.results32 _ _ (w.heap.size+1) _ x10 _ _ _ rfl (setRow_heap _ _ _ _ _ _ rp1) rfl Tryd.underlying30 rfl h10.info) rfl ⟨rfl,below_setRow hw (by omega) _⟩
 ·rw[decide_eq_false hz] at cZ
  intro w hF
  have rp0:((w.alloc (.cells yr 28)).alloc (.cells q20 30)).heap[w.heap.size]? =some (.cells yr 28 (0,0)):=hp2_0 w _ _;have rp1:((w.alloc (.cells yr 28)).alloc (.cells q20 30)).heap[w.heap.size+1]? =some (.cells q20 30 (0,0)):=hp2_1 w _ _
  have hw:Below w.heap.size w ((w.alloc (.cells yr 28)).alloc (.cells q20 30)):=(((Below.refl _ _).alloc (Nat.le_refl _) _).alloc (by simp) _)
  have hz0:=hF.sz;have f4:Both ((w.alloc (.cells yr 28)).alloc (.cells q20 30)):=((hF.alloc _).alloc _)
  go_enter Tryd.func32,Tryd.ntmps32
  iterate 12 go_step
  generalize ((w.alloc (.cells yr 28)).alloc (.cells q20 30))=w0 at *
  go_wp2_with (first|(refine wpList_load_want rfl 28 _ rfl (w.heap.size) rfl 28 yr (0,0) _ rp0 Tryd.underlying28 rfl hy.info ?_)|(refine wpList_load_want rfl 30 _ rfl (w.heap.size+1) rfl 30 q20 (0,0) _ rp1 Tryd.underlying30 rfl (by kernel_rfl) ?_)|fail)
  refine(cA.at f4).mono ?_;rintro e w2 ⟨rfl,hb⟩;replace rp0:=keep hb rp0;replace rp1:=keep hb rp1;replace hw:=Below.after hw hb;replace f4:=f4.below hb;clear hb
  go_wp2_with (first|(refine wpList_store_row rfl 28 _ _ rfl (w2.heap.size) s rfl rfl 28 #[.int .u64 0,.int .u64 0,.int .u64 0,.int .u64 0,.int .u64 0] (hp1_0 w2 _) hs.info (hs.fits rfl) hs.one ?_;rw[setRow_alloc_new _ _ _ _ _ _ (by simp)];refine wpList_stay ?_)|fail)
  unfold WpStay
  try simp only[Act.put]
  have rl6:(w2.alloc (.cells s 28)).heap[w2.heap.size]? =some (.cells s 28 (0,0)):=hp1_0 w2 _;have hb:Below w2.heap.size w2 (w2.alloc (.cells s 28)):=((Below.refl _ _).alloc (Nat.le_refl _) _)
  generalize (w2.alloc (.cells s 28))=ws at *
  have ygs_0:=lt_of_row rp0;have ygs_1:=lt_of_row rp1;have ygs:=hw.size;have zgs:=f4.sz;replace rp0:=keep hb rp0;replace rp1:=keep hb rp1;replace hw:=Below.after hw hb;replace f4:=f4.below hb;clear hb
  generalize w2.heap.size=gs at *
  clear w2
  go_wp2_with (first|(refine wpList_load_want rfl 28 _ rfl (w.heap.size) rfl 28 yr (0,0) _ rp0 Tryd.underlying28 rfl hy.info ?_)|(refine wpList_load_want rfl 30 _ rfl (w.heap.size+1) rfl 30 q20 (0,0) _ rp1 Tryd.underlying30 rfl (by kernel_rfl) ?_)|(refine wpList_load_want rfl 28 _ rfl (gs) rfl 28 s (0,0) _ rl6 Tryd.underlying28 rfl hs.info ?_)|(refine wpList_build_as rfl 30 _ rfl [] rfl q20 (by kernel_rfl) ?_;refine wpList_stay ?_)|fail)
  refine(cZ.at _).mono ?_;rintro e w3 ⟨rfl,hb⟩;replace rp0:=keep hb rp0;replace rp1:=keep hb rp1;replace rl6:=keep hb rl6;replace hw:=Below.after hw hb;replace f4:=f4.below hb;clear hb
  go_wp2_with (fail)
  have Hrp0:=keepr rp0;have Hrp1:=keepr rp1;have Hrl6:=keepr rl6
  refine wp_region_tail2 (C:=fun w'=>∃p:Regrown,w'=grow (redrawn w3 p.d) p.os) 8 7 _ _ rfl rfl (.tmp 23) 1 rfl 30 rfl rfl 28 6 29 rfl (by decide) (by decide) rfl rfl (by kernel_rfl) (by kernel_rfl) (by kernel_rfl) (by kernel_rfl) ⟨⟨w3.drawn+1,#[]⟩,by rw[grow_empty];rfl⟩ ?_
  dsimp only[List.set,idle];refine wpQuiet_load_row rfl 28 _ rfl (gs) rfl 28 s (0,0) _ Hrl6.out Tryd.underlying28 rfl hs.info ?_;simp only[Act.put,ZPd,ZPe,ZPf];refine wpQuiet_load_row rfl 28 _ rfl (gs) rfl 28 s (0,0) _ Hrl6.out Tryd.underlying28 rfl hs.info ?_;simp only[Act.put,ZPd,ZPe,ZPf];go_big_quiet_step (exact c4.re f4.1);go_big_quiet_step (fail);go_big_quiet_step (exact c5.re);go_big_quiet_step (fail);go_big_quiet_step (fail);go_big_quiet_step (fail);refine wpQuiet_idle rfl rfl rfl ?_;rintro _ ⟨p,rfl⟩;have hb:=below_regrown w3 p.d p.os
  generalize grow (redrawn w3 p.d) p.os=w6 at *
  replace rp0:=keep hb rp0;replace rp1:=keep hb rp1;replace rl6:=keep hb rl6;replace hw:=Below.after hw hb;replace f4:=f4.below hb;clear hb;clear Hrp0 Hrp1 Hrl6;refine⟨_,run_store_op 28 _ _ rfl (gs) x5 rfl rfl 28 _ rl6 h5.info (hs.size.trans h5.size.symm) h5.one,?_⟩
  simp only[Exit.then]
  replace rp0:=(setRow_other w6 (gs) (w.heap.size) x5 (by first|assumption|omega)).trans rp0
  replace rp1:=(setRow_other w6 (gs) (w.heap.size+1) x5 (by first|assumption|omega)).trans rp1
  replace rl6:=setRow_heap w6 (gs) _ x5 _ _ rl6
  replace hw:=below_setRow hw (show w.heap.size≤gs by first|assumption|omega) x5
  replace f4:=f4.setRow (show 4<gs by first|assumption|omega) x5
  generalize w6.setRow (gs) x5=w7 at *
  go_wp2_with (first|(refine wpList_load_want rfl 28 _ rfl (w.heap.size) rfl 28 yr (0,0) _ rp0 Tryd.underlying28 rfl hy.info ?_)|(refine wpList_load_want rfl 30 _ rfl (w.heap.size+1) rfl 30 q20 (0,0) _ rp1 Tryd.underlying30 rfl (by kernel_rfl) ?_)|(refine wpList_load_want rfl 28 _ rfl (gs) rfl 28 x5 (0,0) _ rl6 Tryd.underlying28 rfl h5.info ?_)|fail)
  refine(c8.at _).mono ?_;rintro e w9 ⟨rfl,hb⟩;replace rp0:=keep hb rp0;replace rp1:=keep hb rp1;replace rl6:=keep hb rl6;replace hw:=Below.after hw hb;replace f4:=f4.below hb;clear hb
  go_wp2_with (first|(refine wpList_load_want rfl 28 _ rfl (w.heap.size) rfl 28 yr (0,0) _ rp0 Tryd.underlying28 rfl hy.info ?_)|(refine wpList_load_want rfl 30 _ rfl (w.heap.size+1) rfl 30 q20 (0,0) _ rp1 Tryd.underlying30 rfl (by kernel_rfl) ?_)|(refine wpList_load_want rfl 28 _ rfl (gs) rfl 28 x5 (0,0) _ rl6 Tryd.underlying28 rfl h5.info ?_)|fail)
  refine(c10.at f4.1).mono ?_;rintro e w11 ⟨rfl,hb⟩;replace rp0:=keep hb rp0;replace rp1:=keep hb rp1;replace rl6:=keep hb rl6;replace hw:=Below.after hw hb;replace f4:=f4.below hb;clear hb
  go_wp2_with (first|(refine wpList_build_as rfl 30 _ rfl [] rfl q20 (by kernel_rfl) ?_)|(refine wpList_store_row rfl 30 _ _ rfl (w.heap.size+1) x10 rfl rfl 30 _ rp1 h10.info ((show _=20 from rfl).trans h10.size.symm) h10.one ?_)|fail)
  exact bodyPost_ret (v:=.tuple #[.agg x10,.int .i64 0]) (results_row_slot Tryd.results32 _ _ (w.heap.size+1) _ x10 _ _ _ rfl (setRow_heap _ _ _ _ _ _ rp1) rfl Tryd.underlying30 rfl h10.info) rfl ⟨rfl,below_setRow hw (by omega) _⟩
set_option maxRecDepth 100000 in
set_option maxHeartbeats 8000000 in
theorem beside_no {yr:Array Value} {Y:Int} (hy:NumOf yr Y) {odd:Bool} (h:has Y odd=false):Gives5 32 #[.agg yr,.bool odd] (.tuple #[.agg q20,.int .i64 190]):=by
 obtain⟨s,hs,cA⟩:=a_across hy;have cZ:=a_isZero hs
 by_cases hO:rok (qy Y)=true
 ·have h2:(decide (rval (qy Y)%prm=0)&&odd)=true:=by unfold has at h;rw[hO,Bool.true_and] at h;revert h;cases(decide (rval (qy Y)%prm=0)&&odd)<;>simp
  rw[Bool.and_eq_true] at h2
  obtain⟨hz,rfl⟩:=h2;rw[hO] at cA;rw[hz] at cZ;intro w hF;have rp0:((w.alloc (.cells yr 28)).alloc (.cells q20 30)).heap[w.heap.size]? =some (.cells yr 28 (0,0)):=hp2_0 w _ _;have rp1:((w.alloc (.cells yr 28)).alloc (.cells q20 30)).heap[w.heap.size+1]? =some (.cells q20 30 (0,0)):=hp2_1 w _ _
  have hw:Below w.heap.size w ((w.alloc (.cells yr 28)).alloc (.cells q20 30)):=(((Below.refl _ _).alloc (Nat.le_refl _) _).alloc (by simp) _)
  have hz0:=hF.sz;have f4:Both ((w.alloc (.cells yr 28)).alloc (.cells q20 30)):=((hF.alloc _).alloc _)
  go_enter Tryd.func32,Tryd.ntmps32
  iterate 12 go_step
  generalize ((w.alloc (.cells yr 28)).alloc (.cells q20 30))=w0 at *
  go_wp2_with (first|(refine wpList_load_want rfl 28 _ rfl (w.heap.size) rfl 28 yr (0,0) _ rp0 Tryd.underlying28 rfl hy.info ?_)|(refine wpList_load_want rfl 30 _ rfl (w.heap.size+1) rfl 30 q20 (0,0) _ rp1 Tryd.underlying30 rfl (by kernel_rfl) ?_)|fail)
  refine(cA.at f4).mono ?_;rintro e w2 ⟨rfl,hb⟩;replace rp0:=keep hb rp0;replace rp1:=keep hb rp1;replace hw:=Below.after hw hb;replace f4:=f4.below hb;clear hb
  go_wp2_with (first|(refine wpList_store_row rfl 28 _ _ rfl (w2.heap.size) s rfl rfl 28 #[.int .u64 0,.int .u64 0,.int .u64 0,.int .u64 0,.int .u64 0] (hp1_0 w2 _) hs.info (hs.fits rfl) hs.one ?_;rw[setRow_alloc_new _ _ _ _ _ _ (by simp)];refine wpList_stay ?_)|fail)
  unfold WpStay
  try simp only[Act.put]
  have rl6:(w2.alloc (.cells s 28)).heap[w2.heap.size]? =some (.cells s 28 (0,0)):=hp1_0 w2 _;have hb:Below w2.heap.size w2 (w2.alloc (.cells s 28)):=((Below.refl _ _).alloc (Nat.le_refl _) _)
  generalize (w2.alloc (.cells s 28))=ws at *
  have ygs_0:=lt_of_row rp0;have ygs_1:=lt_of_row rp1;have ygs:=hw.size;have zgs:=f4.sz;replace rp0:=keep hb rp0;replace rp1:=keep hb rp1;replace hw:=Below.after hw hb;replace f4:=f4.below hb;clear hb
  generalize w2.heap.size=gs at *
  clear w2
  go_wp2_with (first|(refine wpList_load_want rfl 28 _ rfl (w.heap.size) rfl 28 yr (0,0) _ rp0 Tryd.underlying28 rfl hy.info ?_)|(refine wpList_load_want rfl 30 _ rfl (w.heap.size+1) rfl 30 q20 (0,0) _ rp1 Tryd.underlying30 rfl (by kernel_rfl) ?_)|(refine wpList_load_want rfl 28 _ rfl (gs) rfl 28 s (0,0) _ rl6 Tryd.underlying28 rfl hs.info ?_)|(refine wpList_build_as rfl 30 _ rfl [] rfl q20 (by kernel_rfl) ?_;refine wpList_stay ?_)|fail)
  refine(cZ.at _).mono ?_;rintro e w3 ⟨rfl,hb⟩;replace rp0:=keep hb rp0;replace rp1:=keep hb rp1;replace rl6:=keep hb rl6;replace hw:=Below.after hw hb;replace f4:=f4.below hb;clear hb
  go_wp2_with (first|(refine wpList_build_as rfl 30 _ rfl [] rfl q20 (by kernel_rfl) ?_)|(refine wpList_store_row rfl 30 _ _ rfl (w.heap.size+1) q20 rfl rfl 30 _ rp1 (by kernel_rfl) ((show _=20 from rfl).trans (show _=20 from rfl).symm) (by kernel_rfl) ?_)|fail)
  exact bodyPost_ret (v:=.tuple #[.agg q20,.int .i64 190]) (results_row_slot Tryd.results32 _ _ (w.heap.size+1) _ q20 _ _ _ rfl (setRow_heap _ _ _ _ _ _ rp1) rfl Tryd.underlying30 rfl (by kernel_rfl)) rfl ⟨rfl,below_setRow hw (by omega) _⟩
 ·rw[Bool.not_eq_true] at hO
  rw[hO] at cA
  intro w hF;have rp0:((w.alloc (.cells yr 28)).alloc (.cells q20 30)).heap[w.heap.size]? =some (.cells yr 28 (0,0)):=hp2_0 w _ _;have rp1:((w.alloc (.cells yr 28)).alloc (.cells q20 30)).heap[w.heap.size+1]? =some (.cells q20 30 (0,0)):=hp2_1 w _ _
  have hw:Below w.heap.size w ((w.alloc (.cells yr 28)).alloc (.cells q20 30)):=(((Below.refl _ _).alloc (Nat.le_refl _) _).alloc (by simp) _)
  have hz0:=hF.sz;have f4:Both ((w.alloc (.cells yr 28)).alloc (.cells q20 30)):=((hF.alloc _).alloc _)
  go_enter Tryd.func32,Tryd.ntmps32
  iterate 12 go_step
  generalize ((w.alloc (.cells yr 28)).alloc (.cells q20 30))=w0 at *
  go_wp2_with (first|(refine wpList_load_want rfl 28 _ rfl (w.heap.size) rfl 28 yr (0,0) _ rp0 Tryd.underlying28 rfl hy.info ?_)|(refine wpList_load_want rfl 30 _ rfl (w.heap.size+1) rfl 30 q20 (0,0) _ rp1 Tryd.underlying30 rfl (by kernel_rfl) ?_)|fail)
  refine(cA.at f4).mono ?_;rintro e w2 ⟨rfl,hb⟩;replace rp0:=keep hb rp0;replace rp1:=keep hb rp1;replace hw:=Below.after hw hb;replace f4:=f4.below hb;clear hb
  go_wp2_with (first|(refine wpList_store_row rfl 28 _ _ rfl (w2.heap.size) s rfl rfl 28 #[.int .u64 0,.int .u64 0,.int .u64 0,.int .u64 0,.int .u64 0] (hp1_0 w2 _) hs.info (hs.fits rfl) hs.one ?_;rw[setRow_alloc_new _ _ _ _ _ _ (by simp)];refine wpList_stay ?_)|fail)
  unfold WpStay
  try simp only[Act.put]
  have rl6:(w2.alloc (.cells s 28)).heap[w2.heap.size]? =some (.cells s 28 (0,0)):=hp1_0 w2 _;have hb:Below w2.heap.size w2 (w2.alloc (.cells s 28)):=((Below.refl _ _).alloc (Nat.le_refl _) _)
  generalize (w2.alloc (.cells s 28))=ws at *
  have ygs_0:=lt_of_row rp0;have ygs_1:=lt_of_row rp1;have ygs:=hw.size;have zgs:=f4.sz;replace rp0:=keep hb rp0;replace rp1:=keep hb rp1;replace hw:=Below.after hw hb;replace f4:=f4.below hb;clear hb
  generalize w2.heap.size=gs at *
  clear w2
  go_wp2_with (first|(refine wpList_build_as rfl 30 _ rfl [] rfl q20 (by kernel_rfl) ?_;refine wpList_stay ?_)|fail)
  unfold WpStay
  go_wp2_with (first|(refine wpList_build_as rfl 30 _ rfl [] rfl q20 (by kernel_rfl) ?_)|(refine wpList_store_row rfl 30 _ _ rfl (w.heap.size+1) q20 rfl rfl 30 _ rp1 (by kernel_rfl) ((show _=20 from rfl).trans (show _=20 from rfl).symm) (by kernel_rfl) ?_)|fail)
  exact bodyPost_ret (v:=.tuple #[.agg q20,.int .i64 190]) (results_row_slot Tryd.results32 _ _ (w.heap.size+1) _ q20 _ _ _ rfl (setRow_heap _ _ _ _ _ _ rp1) rfl Tryd.underlying30 rfl (by kernel_rfl)) rfl ⟨rfl,below_setRow hw (by omega) _⟩
set_option maxRecDepth 100000 in
set_option maxHeartbeats 8000000 in
theorem a_Parse {k:Array Value} {N:Int} (h:KeyOf k N):∃t,PtO t (pp N)∧Gives5 5 #[.agg k] (.tuple #[.agg t,.int .i64 (pe N)]):=by
 have hN:KeyOf (kb N) N:=by rw[←key_is h];exact h
 rw[key_is h];have hNb:=h.bd;have htop:=key_top hN
 have ht0:0≤N/452312848583266388373324160190187140051835877600158453279131187530910662656∧N/452312848583266388373324160190187140051835877600158453279131187530910662656<256:=by omega
 have eM:=hide (show(kb N).setIfInBounds 31 (.int .u8 (N/452312848583266388373324160190187140051835877600158453279131187530910662656%128))=kb (N%57896044618658097711785492504343953926634992332820282019728792003956564819968) by
  rw[htop.2 _ (by omega)];congr 1;omega)
 have eN:=hide (show bits .andNot .u8 (byt N 31) 128=N/452312848583266388373324160190187140051835877600158453279131187530910662656%128 by rw[htop.1];exact andNot128 _ ht0)
 have hM0:0≤N%57896044618658097711785492504343953926634992332820282019728792003956564819968:=by omega
 have hM:KeyOf (kb (N%57896044618658097711785492504343953926634992332820282019728792003956564819968)) (N%57896044618658097711785492504343953926634992332820282019728792003956564819968):=kb_key _ hM0 (by omega)
 have hMp:KeyOf (kb (N%57896044618658097711785492504343953926634992332820282019728792003956564819968%prm)) (N%57896044618658097711785492504343953926634992332820282019728792003956564819968%prm):=kb_mod _;obtain⟨yr,hy0,cF⟩:=a_from hM
 have hy:NumOf yr (N%57896044618658097711785492504343953926634992332820282019728792003956564819968):=hy0.congr (by rw[Int.emod_emod])
 clear hy0;have cB:=a_bytes hy
 generalize hMM:N%57896044618658097711785492504343953926634992332820282019728792003956564819968=M at *
 generalize N/452312848583266388373324160190187140051835877600158453279131187530910662656%128=b7 at *
 by_cases hodd:57896044618658097711785492504343953926634992332820282019728792003956564819968≤N
 ·have hd:decide (57896044618658097711785492504343953926634992332820282019728792003956564819968≤N)=true:=decide_eq_true hodd
  have e1:bits .and .u8 (byt N 31) 128=128:=by rw[htop.1,and128 _ (by omega)];rw[if_pos (by omega)]
  clear htop
  by_cases hl:M<prm
  ·have heq:∀W,(Op.equalIn 10000 23 (.agg (kb (M%prm))) (.agg (kb M))).run Tryd.prog W=.ok true W:=fun W=>by
    rw[kb_equal _ _ hMp.bd.1 hMp.bd.2 hM.bd.1 hM.bd.2,Int.emod_eq_of_lt hM0 hl];simp
   by_cases hh:has M true=true
   ·obtain⟨q1,q2,q3⟩:=pp_yes hNb.1 hNb.2 (by rw[hMM];exact hl) (by rw[hd,hMM];exact hh)
    rw[hd,hMM] at q3
    rw[hMM] at q2
    obtain⟨t,ht,cS⟩:=beside_yes hy hh (P:=pp N) (by rw[q2,Int.emod_eq_of_lt hM0 hl]) q3
    refine⟨t,ht,?_⟩;rw[q1];clear q1 q2 q3 hh hd hodd hNb hM0 hl ht0 hMM;intro w hF;have rp0:((w.alloc (.cells (kb N) 23)).alloc (.cells q20 30)).heap[w.heap.size]? =some (.cells (kb N) 23 (0,0)):=hp2_0 w _ _;have rp1:((w.alloc (.cells (kb N) 23)).alloc (.cells q20 30)).heap[w.heap.size+1]? =some (.cells q20 30 (0,0)):=hp2_1 w _ _
    have hw:Below w.heap.size w ((w.alloc (.cells (kb N) 23)).alloc (.cells q20 30)):=(((Below.refl _ _).alloc (Nat.le_refl _) _).alloc (by simp) _)
    have hz0:=hF.sz;have f4:Both ((w.alloc (.cells (kb N) 23)).alloc (.cells q20 30)):=((hF.alloc _).alloc _)
    go_enter Tryd.func5,Tryd.ntmps5
    iterate 12 go_step
    generalize ((w.alloc (.cells (kb N) 23)).alloc (.cells q20 30))=w0 at *
    have c31:w0.cell? ⟨w.heap.size,31,none⟩=some (.int .u8 (byt N 31)):=cell_of_row w0 (w.heap.size) 31 _ _ _ rp0
    go_wp2_with (first|(refine wpList_load_cell31 rfl 5 _ rfl (w.heap.size) 31 rfl _ c31 Tryd.underlying5 ?_)|(refine wpList_store_cell31 rfl 5 _ _ rfl (w.heap.size) 31 rfl (.int .u8 b7) (by first|rfl|(rw[←eN.out];rfl)) 23 (kb N) rp0 (by rw[kb_size];decide) (by kernel_rfl) rfl ?_;rw[eM.out];refine wpList_stay ?_)|fail)
    unfold WpStay;clear c31
    replace rp1:=(setRow_other w0 (w.heap.size) (w.heap.size+1) (kb M) (by first|assumption|omega)).trans rp1
    replace rp0:=setRow_heap w0 (w.heap.size) _ (kb M) _ _ rp0
    replace hw:=below_setRow hw (show w.heap.size≤w.heap.size by first|assumption|omega) (kb M)
    replace f4:=f4.setRow (show 4<w.heap.size by first|assumption|omega) (kb M)
    generalize w0.setRow (w.heap.size) (kb M)=wz at *
    go_wp2_with (first|(refine wpList_load_want rfl 23 _ rfl (w.heap.size) rfl 23 (kb M) (0,0) _ rp0 Tryd.underlying23 rfl hM.info ?_)|(refine wpList_load_want rfl 30 _ rfl (w.heap.size+1) rfl 30 q20 (0,0) _ rp1 Tryd.underlying30 rfl (by kernel_rfl) ?_)|fail)
    refine(cF.at _).mono ?_;rintro e w2 ⟨rfl,hb⟩;replace rp0:=keep hb rp0;replace rp1:=keep hb rp1;replace hw:=Below.after hw hb;replace f4:=f4.below hb;clear hb
    go_wp2_with (first|(refine wpList_store_row rfl 28 _ _ rfl (w2.heap.size) yr rfl rfl 28 #[.int .u64 0,.int .u64 0,.int .u64 0,.int .u64 0,.int .u64 0] (hp1_0 w2 _) hy.info (hy.fits rfl) hy.one ?_;rw[setRow_alloc_new _ _ _ _ _ _ (by simp)];refine wpList_stay ?_)|fail)
    unfold WpStay
    try simp only[Act.put]
    have rl5:(w2.alloc (.cells yr 28)).heap[w2.heap.size]? =some (.cells yr 28 (0,0)):=hp1_0 w2 _;have hb:Below w2.heap.size w2 (w2.alloc (.cells yr 28)):=((Below.refl _ _).alloc (Nat.le_refl _) _)
    generalize (w2.alloc (.cells yr 28))=wy at *
    have ygy_0:=lt_of_row rp0;have ygy_1:=lt_of_row rp1;have ygy:=hw.size;have zgy:=f4.sz;replace rp0:=keep hb rp0;replace rp1:=keep hb rp1;replace hw:=Below.after hw hb;replace f4:=f4.below hb;clear hb
    generalize w2.heap.size=gy at *
    clear w2
    go_wp2_with (fail)
    have Hrp0:=keepr rp0;have Hrp1:=keepr rp1;have Hrl5:=keepr rl5
    refine wp_region_quiet_below (by kernel_rfl) (by kernel_rfl) ?_
    refine wpQuiet_load_row rfl 28 _ rfl (gy) rfl 28 yr (0,0) _ Hrl5.out Tryd.underlying28 rfl hy.info ?_;simp only[Act.put,ZPd,ZPe,ZPf];go_big_quiet_step (exact cB.re);refine wpQuiet_load_row rfl 23 _ rfl (w.heap.size) rfl 23 (kb M) (0,0) _ Hrp0.out Tryd.underlying23 rfl hM.info ?_;simp only[Act.put,ZPd,ZPe,ZPf];go_big_quiet_step (fail);refine wpQuiet_nil ?_;rintro _ ⟨p,rfl⟩;have hb:=below_regrown wy p.d p.os
    generalize grow (redrawn wy p.d) p.os=w3 at *
    replace rp0:=keep hb rp0;replace rp1:=keep hb rp1;replace rl5:=keep hb rl5;replace hw:=Below.after hw hb;replace f4:=f4.below hb;clear hb;clear Hrp0 Hrp1 Hrl5
    go_wp2_with (first|(refine wpList_load_want rfl 23 _ rfl (w.heap.size) rfl 23 (kb M) (0,0) _ rp0 Tryd.underlying23 rfl hM.info ?_)|(refine wpList_load_want rfl 30 _ rfl (w.heap.size+1) rfl 30 q20 (0,0) _ rp1 Tryd.underlying30 rfl (by kernel_rfl) ?_)|(refine wpList_load_want rfl 28 _ rfl (gy) rfl 28 yr (0,0) _ rl5 Tryd.underlying28 rfl hy.info ?_)|fail)
    refine(cS.at f4).mono ?_;rintro e w6 ⟨rfl,hb⟩;replace rp0:=keep hb rp0;replace rp1:=keep hb rp1;replace rl5:=keep hb rl5;replace hw:=Below.after hw hb;replace f4:=f4.below hb;clear hb
    go_wp2_with (first|(refine wpList_build_as rfl 30 _ rfl [] rfl q20 (by kernel_rfl) ?_)|(refine wpList_store_row rfl 30 _ _ rfl (w.heap.size+1) t rfl rfl 30 _ rp1 ht.info ((show _=20 from rfl).trans ht.size.symm) ht.one ?_)|fail)
    exact bodyPost_ret (v:=.tuple #[.agg t,.int .i64 0]) (results_row_slot Tryd.results5 _ _ (w.heap.size+1) _ t _ _ _ rfl (setRow_heap _ _ _ _ _ _ rp1) rfl Tryd.underlying30 rfl ht.info) rfl ⟨rfl,below_setRow hw (by omega) _⟩
   ·rw[Bool.not_eq_true] at hh
    obtain⟨q1,q2⟩:=pp_no hNb.1 hNb.2 (by rw[hd,hMM,decide_eq_true hl,Bool.true_and];exact hh)
    have cS:=beside_no hy hh;rw[q1,q2];refine⟨q20,pt_zero,?_⟩;clear q1 q2 hh hd hodd hNb hM0 hl ht0 hMM;intro w hF;have rp0:((w.alloc (.cells (kb N) 23)).alloc (.cells q20 30)).heap[w.heap.size]? =some (.cells (kb N) 23 (0,0)):=hp2_0 w _ _;have rp1:((w.alloc (.cells (kb N) 23)).alloc (.cells q20 30)).heap[w.heap.size+1]? =some (.cells q20 30 (0,0)):=hp2_1 w _ _
    have hw:Below w.heap.size w ((w.alloc (.cells (kb N) 23)).alloc (.cells q20 30)):=(((Below.refl _ _).alloc (Nat.le_refl _) _).alloc (by simp) _)
    have hz0:=hF.sz;have f4:Both ((w.alloc (.cells (kb N) 23)).alloc (.cells q20 30)):=((hF.alloc _).alloc _)
    go_enter Tryd.func5,Tryd.ntmps5
    iterate 12 go_step
    generalize ((w.alloc (.cells (kb N) 23)).alloc (.cells q20 30))=w0 at *
    have c31:w0.cell? ⟨w.heap.size,31,none⟩=some (.int .u8 (byt N 31)):=cell_of_row w0 (w.heap.size) 31 _ _ _ rp0
    go_wp2_with (first|(refine wpList_load_cell31 rfl 5 _ rfl (w.heap.size) 31 rfl _ c31 Tryd.underlying5 ?_)|(refine wpList_store_cell31 rfl 5 _ _ rfl (w.heap.size) 31 rfl (.int .u8 b7) (by first|rfl|(rw[←eN.out];rfl)) 23 (kb N) rp0 (by rw[kb_size];decide) (by kernel_rfl) rfl ?_;rw[eM.out];refine wpList_stay ?_)|fail)
    unfold WpStay;clear c31
    replace rp1:=(setRow_other w0 (w.heap.size) (w.heap.size+1) (kb M) (by first|assumption|omega)).trans rp1
    replace rp0:=setRow_heap w0 (w.heap.size) _ (kb M) _ _ rp0
    replace hw:=below_setRow hw (show w.heap.size≤w.heap.size by first|assumption|omega) (kb M)
    replace f4:=f4.setRow (show 4<w.heap.size by first|assumption|omega) (kb M)
    generalize w0.setRow (w.heap.size) (kb M)=wz at *
    go_wp2_with (first|(refine wpList_load_want rfl 23 _ rfl (w.heap.size) rfl 23 (kb M) (0,0) _ rp0 Tryd.underlying23 rfl hM.info ?_)|(refine wpList_load_want rfl 30 _ rfl (w.heap.size+1) rfl 30 q20 (0,0) _ rp1 Tryd.underlying30 rfl (by kernel_rfl) ?_)|fail)
    refine(cF.at _).mono ?_;rintro e w2 ⟨rfl,hb⟩;replace rp0:=keep hb rp0;replace rp1:=keep hb rp1;replace hw:=Below.after hw hb;replace f4:=f4.below hb;clear hb
    go_wp2_with (first|(refine wpList_store_row rfl 28 _ _ rfl (w2.heap.size) yr rfl rfl 28 #[.int .u64 0,.int .u64 0,.int .u64 0,.int .u64 0,.int .u64 0] (hp1_0 w2 _) hy.info (hy.fits rfl) hy.one ?_;rw[setRow_alloc_new _ _ _ _ _ _ (by simp)];refine wpList_stay ?_)|fail)
    unfold WpStay
    try simp only[Act.put]
    have rl5:(w2.alloc (.cells yr 28)).heap[w2.heap.size]? =some (.cells yr 28 (0,0)):=hp1_0 w2 _;have hb:Below w2.heap.size w2 (w2.alloc (.cells yr 28)):=((Below.refl _ _).alloc (Nat.le_refl _) _)
    generalize (w2.alloc (.cells yr 28))=wy at *
    have ygy_0:=lt_of_row rp0;have ygy_1:=lt_of_row rp1;have ygy:=hw.size;have zgy:=f4.sz;replace rp0:=keep hb rp0;replace rp1:=keep hb rp1;replace hw:=Below.after hw hb;replace f4:=f4.below hb;clear hb
    generalize w2.heap.size=gy at *
    clear w2
    go_wp2_with (fail)
    have Hrp0:=keepr rp0;have Hrp1:=keepr rp1;have Hrl5:=keepr rl5
    refine wp_region_quiet_below (by kernel_rfl) (by kernel_rfl) ?_
    refine wpQuiet_load_row rfl 28 _ rfl (gy) rfl 28 yr (0,0) _ Hrl5.out Tryd.underlying28 rfl hy.info ?_;simp only[Act.put,ZPd,ZPe,ZPf];go_big_quiet_step (exact cB.re);refine wpQuiet_load_row rfl 23 _ rfl (w.heap.size) rfl 23 (kb M) (0,0) _ Hrp0.out Tryd.underlying23 rfl hM.info ?_;simp only[Act.put,ZPd,ZPe,ZPf];go_big_quiet_step (fail);refine wpQuiet_nil ?_;rintro _ ⟨p,rfl⟩;have hb:=below_regrown wy p.d p.os
    generalize grow (redrawn wy p.d) p.os=w3 at *
    replace rp0:=keep hb rp0;replace rp1:=keep hb rp1;replace rl5:=keep hb rl5;replace hw:=Below.after hw hb;replace f4:=f4.below hb;clear hb;clear Hrp0 Hrp1 Hrl5
    go_wp2_with (first|(refine wpList_load_want rfl 23 _ rfl (w.heap.size) rfl 23 (kb M) (0,0) _ rp0 Tryd.underlying23 rfl hM.info ?_)|(refine wpList_load_want rfl 30 _ rfl (w.heap.size+1) rfl 30 q20 (0,0) _ rp1 Tryd.underlying30 rfl (by kernel_rfl) ?_)|(refine wpList_load_want rfl 28 _ rfl (gy) rfl 28 yr (0,0) _ rl5 Tryd.underlying28 rfl hy.info ?_)|fail)
    refine(cS.at f4).mono ?_;rintro e w6 ⟨rfl,hb⟩;replace rp0:=keep hb rp0;replace rp1:=keep hb rp1;replace rl5:=keep hb rl5;replace hw:=Below.after hw hb;replace f4:=f4.below hb;clear hb
    go_wp2_with (first|(refine wpList_build_as rfl 30 _ rfl [] rfl q20 (by kernel_rfl) ?_)|(refine wpList_store_row rfl 30 _ _ rfl (w.heap.size+1) q20 rfl rfl 30 _ rp1 pt_zero.info ((show _=20 from rfl).trans pt_zero.size.symm) pt_zero.one ?_)|fail)
    exact bodyPost_ret (v:=.tuple #[.agg q20,.int .i64 190]) (results_row_slot Tryd.results5 _ _ (w.heap.size+1) _ q20 _ _ _ rfl (setRow_heap _ _ _ _ _ _ rp1) rfl Tryd.underlying30 rfl pt_zero.info) rfl ⟨rfl,below_setRow hw (by omega) _⟩
  ·have heq:∀W,(Op.equalIn 10000 23 (.agg (kb (M%prm))) (.agg (kb M))).run Tryd.prog W=.ok false W:=fun W=>by
    have hne:¬M%prm=M:=fun e=>hl (by rw[←e];exact Int.emod_lt_of_pos _ prm_pos)
    rw[kb_equal _ _ hMp.bd.1 hMp.bd.2 hM.bd.1 hM.bd.2,decide_eq_false hne]
   obtain⟨q1,q2⟩:=pp_no hNb.1 hNb.2 (by rw[hMM,decide_eq_false hl,Bool.false_and])
   rw[q1,q2];refine⟨q20,pt_zero,?_⟩;clear q1 q2 hd hodd hNb hM0 hl ht0 hMM;intro w hF;have rp0:((w.alloc (.cells (kb N) 23)).alloc (.cells q20 30)).heap[w.heap.size]? =some (.cells (kb N) 23 (0,0)):=hp2_0 w _ _;have rp1:((w.alloc (.cells (kb N) 23)).alloc (.cells q20 30)).heap[w.heap.size+1]? =some (.cells q20 30 (0,0)):=hp2_1 w _ _
   have hw:Below w.heap.size w ((w.alloc (.cells (kb N) 23)).alloc (.cells q20 30)):=(((Below.refl _ _).alloc (Nat.le_refl _) _).alloc (by simp) _)
   have hz0:=hF.sz;have f4:Both ((w.alloc (.cells (kb N) 23)).alloc (.cells q20 30)):=((hF.alloc _).alloc _)
   go_enter Tryd.func5,Tryd.ntmps5
   iterate 12 go_step
   generalize ((w.alloc (.cells (kb N) 23)).alloc (.cells q20 30))=w0 at *
   have c31:w0.cell? ⟨w.heap.size,31,none⟩=some (.int .u8 (byt N 31)):=cell_of_row w0 (w.heap.size) 31 _ _ _ rp0
   go_wp2_with (first|(refine wpList_load_cell31 rfl 5 _ rfl (w.heap.size) 31 rfl _ c31 Tryd.underlying5 ?_)|(refine wpList_store_cell31 rfl 5 _ _ rfl (w.heap.size) 31 rfl (.int .u8 b7) (by first|rfl|(rw[←eN.out];rfl)) 23 (kb N) rp0 (by rw[kb_size];decide) (by kernel_rfl) rfl ?_;rw[eM.out];refine wpList_stay ?_)|fail)
   unfold WpStay;clear c31
   replace rp1:=(setRow_other w0 (w.heap.size) (w.heap.size+1) (kb M) (by first|assumption|omega)).trans rp1
   replace rp0:=setRow_heap w0 (w.heap.size) _ (kb M) _ _ rp0
   replace hw:=below_setRow hw (show w.heap.size≤w.heap.size by first|assumption|omega) (kb M)
   replace f4:=f4.setRow (show 4<w.heap.size by first|assumption|omega) (kb M)
   generalize w0.setRow (w.heap.size) (kb M)=wz at *
   go_wp2_with (first|(refine wpList_load_want rfl 23 _ rfl (w.heap.size) rfl 23 (kb M) (0,0) _ rp0 Tryd.underlying23 rfl hM.info ?_)|(refine wpList_load_want rfl 30 _ rfl (w.heap.size+1) rfl 30 q20 (0,0) _ rp1 Tryd.underlying30 rfl (by kernel_rfl) ?_)|fail)
   refine(cF.at _).mono ?_;rintro e w2 ⟨rfl,hb⟩;replace rp0:=keep hb rp0;replace rp1:=keep hb rp1;replace hw:=Below.after hw hb;replace f4:=f4.below hb;clear hb
   go_wp2_with (first|(refine wpList_store_row rfl 28 _ _ rfl (w2.heap.size) yr rfl rfl 28 #[.int .u64 0,.int .u64 0,.int .u64 0,.int .u64 0,.int .u64 0] (hp1_0 w2 _) hy.info (hy.fits rfl) hy.one ?_;rw[setRow_alloc_new _ _ _ _ _ _ (by simp)];refine wpList_stay ?_)|fail)
   unfold WpStay
   try simp only[Act.put]
   have rl5:(w2.alloc (.cells yr 28)).heap[w2.heap.size]? =some (.cells yr 28 (0,0)):=hp1_0 w2 _;have hb:Below w2.heap.size w2 (w2.alloc (.cells yr 28)):=((Below.refl _ _).alloc (Nat.le_refl _) _)
   generalize (w2.alloc (.cells yr 28))=wy at *
   have ygy_0:=lt_of_row rp0;have ygy_1:=lt_of_row rp1;have ygy:=hw.size;have zgy:=f4.sz;replace rp0:=keep hb rp0;replace rp1:=keep hb rp1;replace hw:=Below.after hw hb;replace f4:=f4.below hb;clear hb
   generalize w2.heap.size=gy at *
   clear w2
   go_wp2_with (fail)
   have Hrp0:=keepr rp0;have Hrp1:=keepr rp1;have Hrl5:=keepr rl5
   refine wp_region_quiet_below (by kernel_rfl) (by kernel_rfl) ?_
   refine wpQuiet_load_row rfl 28 _ rfl (gy) rfl 28 yr (0,0) _ Hrl5.out Tryd.underlying28 rfl hy.info ?_;simp only[Act.put,ZPd,ZPe,ZPf];go_big_quiet_step (exact cB.re);refine wpQuiet_load_row rfl 23 _ rfl (w.heap.size) rfl 23 (kb M) (0,0) _ Hrp0.out Tryd.underlying23 rfl hM.info ?_;simp only[Act.put,ZPd,ZPe,ZPf];go_big_quiet_step (fail);refine wpQuiet_nil ?_;rintro _ ⟨p,rfl⟩;have hb:=below_regrown wy p.d p.os
   generalize grow (redrawn wy p.d) p.os=w3 at *
   replace rp0:=keep hb rp0;replace rp1:=keep hb rp1;replace rl5:=keep hb rl5;replace hw:=Below.after hw hb;replace f4:=f4.below hb;clear hb;clear Hrp0 Hrp1 Hrl5
   go_wp2_with (refine wpList_build_as rfl 30 _ rfl [] rfl q20 (by kernel_rfl) ?_;refine wpList_stay ?_)
   unfold WpStay
   go_wp2_with (first|(refine wpList_build_as rfl 30 _ rfl [] rfl q20 (by kernel_rfl) ?_)|(refine wpList_store_row rfl 30 _ _ rfl (w.heap.size+1) q20 rfl rfl 30 _ rp1 (by kernel_rfl) ((show _=20 from rfl).trans (show _=20 from rfl).symm) (by kernel_rfl) ?_)|fail)
   exact bodyPost_ret (v:=.tuple #[.agg q20,.int .i64 190]) (results_row_slot Tryd.results5 _ _ (w.heap.size+1) _ q20 _ _ _ rfl (setRow_heap _ _ _ _ _ _ rp1) rfl Tryd.underlying30 rfl (by kernel_rfl)) rfl ⟨rfl,below_setRow hw (by omega) _⟩
 ·have hd:decide (57896044618658097711785492504343953926634992332820282019728792003956564819968≤N)=false:=decide_eq_false hodd
  have e1:bits .and .u8 (byt N 31) 128=0:=by rw[htop.1,and128 _ (by omega)];rw[if_neg (by omega)]
  clear htop
  by_cases hl:M<prm
  ·have heq:∀W,(Op.equalIn 10000 23 (.agg (kb (M%prm))) (.agg (kb M))).run Tryd.prog W=.ok true W:=fun W=>by
    rw[kb_equal _ _ hMp.bd.1 hMp.bd.2 hM.bd.1 hM.bd.2,Int.emod_eq_of_lt hM0 hl];simp
   by_cases hh:has M false=true
   ·obtain⟨q1,q2,q3⟩:=pp_yes hNb.1 hNb.2 (by rw[hMM];exact hl) (by rw[hd,hMM];exact hh)
    rw[hd,hMM] at q3
    rw[hMM] at q2
    obtain⟨t,ht,cS⟩:=beside_yes hy hh (P:=pp N) (by rw[q2,Int.emod_eq_of_lt hM0 hl]) q3
    refine⟨t,ht,?_⟩;rw[q1];clear q1 q2 q3 hh hd hodd hNb hM0 hl ht0 hMM;intro w hF;have rp0:((w.alloc (.cells (kb N) 23)).alloc (.cells q20 30)).heap[w.heap.size]? =some (.cells (kb N) 23 (0,0)):=hp2_0 w _ _;have rp1:((w.alloc (.cells (kb N) 23)).alloc (.cells q20 30)).heap[w.heap.size+1]? =some (.cells q20 30 (0,0)):=hp2_1 w _ _
    have hw:Below w.heap.size w ((w.alloc (.cells (kb N) 23)).alloc (.cells q20 30)):=(((Below.refl _ _).alloc (Nat.le_refl _) _).alloc (by simp) _)
    have hz0:=hF.sz;have f4:Both ((w.alloc (.cells (kb N) 23)).alloc (.cells q20 30)):=((hF.alloc _).alloc _)
    go_enter Tryd.func5,Tryd.ntmps5
    iterate 12 go_step
    generalize ((w.alloc (.cells (kb N) 23)).alloc (.cells q20 30))=w0 at *
    have c31:w0.cell? ⟨w.heap.size,31,none⟩=some (.int .u8 (byt N 31)):=cell_of_row w0 (w.heap.size) 31 _ _ _ rp0
    go_wp2_with (first|(refine wpList_load_cell31 rfl 5 _ rfl (w.heap.size) 31 rfl _ c31 Tryd.underlying5 ?_)|(refine wpList_store_cell31 rfl 5 _ _ rfl (w.heap.size) 31 rfl (.int .u8 b7) (by first|rfl|(rw[←eN.out];rfl)) 23 (kb N) rp0 (by rw[kb_size];decide) (by kernel_rfl) rfl ?_;rw[eM.out];refine wpList_stay ?_)|fail)
    unfold WpStay;clear c31
    replace rp1:=(setRow_other w0 (w.heap.size) (w.heap.size+1) (kb M) (by first|assumption|omega)).trans rp1
    replace rp0:=setRow_heap w0 (w.heap.size) _ (kb M) _ _ rp0
    replace hw:=below_setRow hw (show w.heap.size≤w.heap.size by first|assumption|omega) (kb M)
    replace f4:=f4.setRow (show 4<w.heap.size by first|assumption|omega) (kb M)
    generalize w0.setRow (w.heap.size) (kb M)=wz at *
    go_wp2_with (first|(refine wpList_load_want rfl 23 _ rfl (w.heap.size) rfl 23 (kb M) (0,0) _ rp0 Tryd.underlying23 rfl hM.info ?_)|(refine wpList_load_want rfl 30 _ rfl (w.heap.size+1) rfl 30 q20 (0,0) _ rp1 Tryd.underlying30 rfl (by kernel_rfl) ?_)|fail)
    refine(cF.at _).mono ?_;rintro e w2 ⟨rfl,hb⟩;replace rp0:=keep hb rp0;replace rp1:=keep hb rp1;replace hw:=Below.after hw hb;replace f4:=f4.below hb;clear hb
    go_wp2_with (first|(refine wpList_store_row rfl 28 _ _ rfl (w2.heap.size) yr rfl rfl 28 #[.int .u64 0,.int .u64 0,.int .u64 0,.int .u64 0,.int .u64 0] (hp1_0 w2 _) hy.info (hy.fits rfl) hy.one ?_;rw[setRow_alloc_new _ _ _ _ _ _ (by simp)];refine wpList_stay ?_)|fail)
    unfold WpStay
    try simp only[Act.put]
    have rl5:(w2.alloc (.cells yr 28)).heap[w2.heap.size]? =some (.cells yr 28 (0,0)):=hp1_0 w2 _;have hb:Below w2.heap.size w2 (w2.alloc (.cells yr 28)):=((Below.refl _ _).alloc (Nat.le_refl _) _)
    generalize (w2.alloc (.cells yr 28))=wy at *
    have ygy_0:=lt_of_row rp0;have ygy_1:=lt_of_row rp1;have ygy:=hw.size;have zgy:=f4.sz;replace rp0:=keep hb rp0;replace rp1:=keep hb rp1;replace hw:=Below.after hw hb;replace f4:=f4.below hb;clear hb
    generalize w2.heap.size=gy at *
    clear w2
    go_wp2_with (fail)
    have Hrp0:=keepr rp0;have Hrp1:=keepr rp1;have Hrl5:=keepr rl5
    refine wp_region_quiet_below (by kernel_rfl) (by kernel_rfl) ?_
    refine wpQuiet_load_row rfl 28 _ rfl (gy) rfl 28 yr (0,0) _ Hrl5.out Tryd.underlying28 rfl hy.info ?_;simp only[Act.put,ZPd,ZPe,ZPf];go_big_quiet_step (exact cB.re);refine wpQuiet_load_row rfl 23 _ rfl (w.heap.size) rfl 23 (kb M) (0,0) _ Hrp0.out Tryd.underlying23 rfl hM.info ?_;simp only[Act.put,ZPd,ZPe,ZPf];go_big_quiet_step (fail);refine wpQuiet_nil ?_;rintro _ ⟨p,rfl⟩;have hb:=below_regrown wy p.d p.os
    generalize grow (redrawn wy p.d) p.os=w3 at *
    replace rp0:=keep hb rp0;replace rp1:=keep hb rp1;replace rl5:=keep hb rl5;replace hw:=Below.after hw hb;replace f4:=f4.below hb;clear hb;clear Hrp0 Hrp1 Hrl5
    go_wp2_with (first|(refine wpList_load_want rfl 23 _ rfl (w.heap.size) rfl 23 (kb M) (0,0) _ rp0 Tryd.underlying23 rfl hM.info ?_)|(refine wpList_load_want rfl 30 _ rfl (w.heap.size+1) rfl 30 q20 (0,0) _ rp1 Tryd.underlying30 rfl (by kernel_rfl) ?_)|(refine wpList_load_want rfl 28 _ rfl (gy) rfl 28 yr (0,0) _ rl5 Tryd.underlying28 rfl hy.info ?_)|fail)
    refine(cS.at f4).mono ?_;rintro e w6 ⟨rfl,hb⟩;replace rp0:=keep hb rp0;replace rp1:=keep hb rp1;replace rl5:=keep hb rl5;replace hw:=Below.after hw hb;replace f4:=f4.below hb;clear hb
    go_wp2_with (first|(refine wpList_build_as rfl 30 _ rfl [] rfl q20 (by kernel_rfl) ?_)|(refine wpList_store_row rfl 30 _ _ rfl (w.heap.size+1) t rfl rfl 30 _ rp1 ht.info ((show _=20 from rfl).trans ht.size.symm) ht.one ?_)|fail)
    exact bodyPost_ret (v:=.tuple #[.agg t,.int .i64 0]) (results_row_slot Tryd.results5 _ _ (w.heap.size+1) _ t _ _ _ rfl (setRow_heap _ _ _ _ _ _ rp1) rfl Tryd.underlying30 rfl ht.info) rfl ⟨rfl,below_setRow hw (by omega) _⟩
   ·rw[Bool.not_eq_true] at hh
    obtain⟨q1,q2⟩:=pp_no hNb.1 hNb.2 (by rw[hd,hMM,decide_eq_true hl,Bool.true_and];exact hh)
    have cS:=beside_no hy hh;rw[q1,q2];refine⟨q20,pt_zero,?_⟩;clear q1 q2 hh hd hodd hNb hM0 hl ht0 hMM;intro w hF;have rp0:((w.alloc (.cells (kb N) 23)).alloc (.cells q20 30)).heap[w.heap.size]? =some (.cells (kb N) 23 (0,0)):=hp2_0 w _ _;have rp1:((w.alloc (.cells (kb N) 23)).alloc (.cells q20 30)).heap[w.heap.size+1]? =some (.cells q20 30 (0,0)):=hp2_1 w _ _
    have hw:Below w.heap.size w ((w.alloc (.cells (kb N) 23)).alloc (.cells q20 30)):=(((Below.refl _ _).alloc (Nat.le_refl _) _).alloc (by simp) _)
    have hz0:=hF.sz;have f4:Both ((w.alloc (.cells (kb N) 23)).alloc (.cells q20 30)):=((hF.alloc _).alloc _)
    go_enter Tryd.func5,Tryd.ntmps5
    iterate 12 go_step
    generalize ((w.alloc (.cells (kb N) 23)).alloc (.cells q20 30))=w0 at *
    have c31:w0.cell? ⟨w.heap.size,31,none⟩=some (.int .u8 (byt N 31)):=cell_of_row w0 (w.heap.size) 31 _ _ _ rp0
    go_wp2_with (first|(refine wpList_load_cell31 rfl 5 _ rfl (w.heap.size) 31 rfl _ c31 Tryd.underlying5 ?_)|(refine wpList_store_cell31 rfl 5 _ _ rfl (w.heap.size) 31 rfl (.int .u8 b7) (by first|rfl|(rw[←eN.out];rfl)) 23 (kb N) rp0 (by rw[kb_size];decide) (by kernel_rfl) rfl ?_;rw[eM.out];refine wpList_stay ?_)|fail)
    unfold WpStay;clear c31
    replace rp1:=(setRow_other w0 (w.heap.size) (w.heap.size+1) (kb M) (by first|assumption|omega)).trans rp1
    replace rp0:=setRow_heap w0 (w.heap.size) _ (kb M) _ _ rp0
    replace hw:=below_setRow hw (show w.heap.size≤w.heap.size by first|assumption|omega) (kb M)
    replace f4:=f4.setRow (show 4<w.heap.size by first|assumption|omega) (kb M)
    generalize w0.setRow (w.heap.size) (kb M)=wz at *
    go_wp2_with (first|(refine wpList_load_want rfl 23 _ rfl (w.heap.size) rfl 23 (kb M) (0,0) _ rp0 Tryd.underlying23 rfl hM.info ?_)|(refine wpList_load_want rfl 30 _ rfl (w.heap.size+1) rfl 30 q20 (0,0) _ rp1 Tryd.underlying30 rfl (by kernel_rfl) ?_)|fail)
    refine(cF.at _).mono ?_;rintro e w2 ⟨rfl,hb⟩;replace rp0:=keep hb rp0;replace rp1:=keep hb rp1;replace hw:=Below.after hw hb;replace f4:=f4.below hb;clear hb
    go_wp2_with (first|(refine wpList_store_row rfl 28 _ _ rfl (w2.heap.size) yr rfl rfl 28 #[.int .u64 0,.int .u64 0,.int .u64 0,.int .u64 0,.int .u64 0] (hp1_0 w2 _) hy.info (hy.fits rfl) hy.one ?_;rw[setRow_alloc_new _ _ _ _ _ _ (by simp)];refine wpList_stay ?_)|fail)
    unfold WpStay
    try simp only[Act.put]
    have rl5:(w2.alloc (.cells yr 28)).heap[w2.heap.size]? =some (.cells yr 28 (0,0)):=hp1_0 w2 _;have hb:Below w2.heap.size w2 (w2.alloc (.cells yr 28)):=((Below.refl _ _).alloc (Nat.le_refl _) _)
    generalize (w2.alloc (.cells yr 28))=wy at *
    have ygy_0:=lt_of_row rp0;have ygy_1:=lt_of_row rp1;have ygy:=hw.size;have zgy:=f4.sz;replace rp0:=keep hb rp0;replace rp1:=keep hb rp1;replace hw:=Below.after hw hb;replace f4:=f4.below hb;clear hb
    generalize w2.heap.size=gy at *
    clear w2
    go_wp2_with (fail)
    have Hrp0:=keepr rp0;have Hrp1:=keepr rp1;have Hrl5:=keepr rl5
    refine wp_region_quiet_below (by kernel_rfl) (by kernel_rfl) ?_
    refine wpQuiet_load_row rfl 28 _ rfl (gy) rfl 28 yr (0,0) _ Hrl5.out Tryd.underlying28 rfl hy.info ?_;simp only[Act.put,ZPd,ZPe,ZPf];go_big_quiet_step (exact cB.re);refine wpQuiet_load_row rfl 23 _ rfl (w.heap.size) rfl 23 (kb M) (0,0) _ Hrp0.out Tryd.underlying23 rfl hM.info ?_;simp only[Act.put,ZPd,ZPe,ZPf];go_big_quiet_step (fail);refine wpQuiet_nil ?_;rintro _ ⟨p,rfl⟩;have hb:=below_regrown wy p.d p.os
    generalize grow (redrawn wy p.d) p.os=w3 at *
    replace rp0:=keep hb rp0;replace rp1:=keep hb rp1;replace rl5:=keep hb rl5;replace hw:=Below.after hw hb;replace f4:=f4.below hb;clear hb;clear Hrp0 Hrp1 Hrl5
    go_wp2_with (first|(refine wpList_load_want rfl 23 _ rfl (w.heap.size) rfl 23 (kb M) (0,0) _ rp0 Tryd.underlying23 rfl hM.info ?_)|(refine wpList_load_want rfl 30 _ rfl (w.heap.size+1) rfl 30 q20 (0,0) _ rp1 Tryd.underlying30 rfl (by kernel_rfl) ?_)|(refine wpList_load_want rfl 28 _ rfl (gy) rfl 28 yr (0,0) _ rl5 Tryd.underlying28 rfl hy.info ?_)|fail)
    refine(cS.at f4).mono ?_;rintro e w6 ⟨rfl,hb⟩;replace rp0:=keep hb rp0;replace rp1:=keep hb rp1;replace rl5:=keep hb rl5;replace hw:=Below.after hw hb;replace f4:=f4.below hb;clear hb
    go_wp2_with (first|(refine wpList_build_as rfl 30 _ rfl [] rfl q20 (by kernel_rfl) ?_)|(refine wpList_store_row rfl 30 _ _ rfl (w.heap.size+1) q20 rfl rfl 30 _ rp1 pt_zero.info ((show _=20 from rfl).trans pt_zero.size.symm) pt_zero.one ?_)|fail)
    exact bodyPost_ret (v:=.tuple #[.agg q20,.int .i64 190]) (results_row_slot Tryd.results5 _ _ (w.heap.size+1) _ q20 _ _ _ rfl (setRow_heap _ _ _ _ _ _ rp1) rfl Tryd.underlying30 rfl pt_zero.info) rfl ⟨rfl,below_setRow hw (by omega) _⟩
  ·have heq:∀W,(Op.equalIn 10000 23 (.agg (kb (M%prm))) (.agg (kb M))).run Tryd.prog W=.ok false W:=fun W=>by
    have hne:¬M%prm=M:=fun e=>hl (by rw[←e];exact Int.emod_lt_of_pos _ prm_pos)
    rw[kb_equal _ _ hMp.bd.1 hMp.bd.2 hM.bd.1 hM.bd.2,decide_eq_false hne]
   obtain⟨q1,q2⟩:=pp_no hNb.1 hNb.2 (by rw[hMM,decide_eq_false hl,Bool.false_and])
   rw[q1,q2];refine⟨q20,pt_zero,?_⟩;clear q1 q2 hd hodd hNb hM0 hl ht0 hMM;intro w hF;have rp0:((w.alloc (.cells (kb N) 23)).alloc (.cells q20 30)).heap[w.heap.size]? =some (.cells (kb N) 23 (0,0)):=hp2_0 w _ _;have rp1:((w.alloc (.cells (kb N) 23)).alloc (.cells q20 30)).heap[w.heap.size+1]? =some (.cells q20 30 (0,0)):=hp2_1 w _ _
   have hw:Below w.heap.size w ((w.alloc (.cells (kb N) 23)).alloc (.cells q20 30)):=(((Below.refl _ _).alloc (Nat.le_refl _) _).alloc (by simp) _)
   have hz0:=hF.sz;have f4:Both ((w.alloc (.cells (kb N) 23)).alloc (.cells q20 30)):=((hF.alloc _).alloc _)
   go_enter Tryd.func5,Tryd.ntmps5
   iterate 12 go_step
   generalize ((w.alloc (.cells (kb N) 23)).alloc (.cells q20 30))=w0 at *
   have c31:w0.cell? ⟨w.heap.size,31,none⟩=some (.int .u8 (byt N 31)):=cell_of_row w0 (w.heap.size) 31 _ _ _ rp0
   go_wp2_with (first|(refine wpList_load_cell31 rfl 5 _ rfl (w.heap.size) 31 rfl _ c31 Tryd.underlying5 ?_)|(refine wpList_store_cell31 rfl 5 _ _ rfl (w.heap.size) 31 rfl (.int .u8 b7) (by first|rfl|(rw[←eN.out];rfl)) 23 (kb N) rp0 (by rw[kb_size];decide) (by kernel_rfl) rfl ?_;rw[eM.out];refine wpList_stay ?_)|fail)
   unfold WpStay;clear c31
   replace rp1:=(setRow_other w0 (w.heap.size) (w.heap.size+1) (kb M) (by first|assumption|omega)).trans rp1
   replace rp0:=setRow_heap w0 (w.heap.size) _ (kb M) _ _ rp0
   replace hw:=below_setRow hw (show w.heap.size≤w.heap.size by first|assumption|omega) (kb M)
   replace f4:=f4.setRow (show 4<w.heap.size by first|assumption|omega) (kb M)
   generalize w0.setRow (w.heap.size) (kb M)=wz at *
   go_wp2_with (first|(refine wpList_load_want rfl 23 _ rfl (w.heap.size) rfl 23 (kb M) (0,0) _ rp0 Tryd.underlying23 rfl hM.info ?_)|(refine wpList_load_want rfl 30 _ rfl (w.heap.size+1) rfl 30 q20 (0,0) _ rp1 Tryd.underlying30 rfl (by kernel_rfl) ?_)|fail)
   refine(cF.at _).mono ?_;rintro e w2 ⟨rfl,hb⟩;replace rp0:=keep hb rp0;replace rp1:=keep hb rp1;replace hw:=Below.after hw hb;replace f4:=f4.below hb;clear hb
   go_wp2_with (first|(refine wpList_store_row rfl 28 _ _ rfl (w2.heap.size) yr rfl rfl 28 #[.int .u64 0,.int .u64 0,.int .u64 0,.int .u64 0,.int .u64 0] (hp1_0 w2 _) hy.info (hy.fits rfl) hy.one ?_;rw[setRow_alloc_new _ _ _ _ _ _ (by simp)];refine wpList_stay ?_)|fail)
   unfold WpStay
   try simp only[Act.put]
   have rl5:(w2.alloc (.cells yr 28)).heap[w2.heap.size]? =some (.cells yr 28 (0,0)):=hp1_0 w2 _;have hb:Below w2.heap.size w2 (w2.alloc (.cells yr 28)):=((Below.refl _ _).alloc (Nat.le_refl _) _)
   generalize (w2.alloc (.cells yr 28))=wy at *
   have ygy_0:=lt_of_row rp0;have ygy_1:=lt_of_row rp1;have ygy:=hw.size;have zgy:=f4.sz;replace rp0:=keep hb rp0;replace rp1:=keep hb rp1;replace hw:=Below.after hw hb;replace f4:=f4.below hb;clear hb
   generalize w2.heap.size=gy at *
   clear w2
   go_wp2_with (fail)
   have Hrp0:=keepr rp0;have Hrp1:=keepr rp1;have Hrl5:=keepr rl5
   refine wp_region_quiet_below (by kernel_rfl) (by kernel_rfl) ?_
   refine wpQuiet_load_row rfl 28 _ rfl (gy) rfl 28 yr (0,0) _ Hrl5.out Tryd.underlying28 rfl hy.info ?_;simp only[Act.put,ZPd,ZPe,ZPf];go_big_quiet_step (exact cB.re);refine wpQuiet_load_row rfl 23 _ rfl (w.heap.size) rfl 23 (kb M) (0,0) _ Hrp0.out Tryd.underlying23 rfl hM.info ?_;simp only[Act.put,ZPd,ZPe,ZPf];go_big_quiet_step (fail);refine wpQuiet_nil ?_;rintro _ ⟨p,rfl⟩;have hb:=below_regrown wy p.d p.os
   generalize grow (redrawn wy p.d) p.os=w3 at *
   replace rp0:=keep hb rp0;replace rp1:=keep hb rp1;replace rl5:=keep hb rl5;replace hw:=Below.after hw hb;replace f4:=f4.below hb;clear hb;clear Hrp0 Hrp1 Hrl5
   go_wp2_with (refine wpList_build_as rfl 30 _ rfl [] rfl q20 (by kernel_rfl) ?_;refine wpList_stay ?_)
   unfold WpStay
   go_wp2_with (first|(refine wpList_build_as rfl 30 _ rfl [] rfl q20 (by kernel_rfl) ?_)|(refine wpList_store_row rfl 30 _ _ rfl (w.heap.size+1) q20 rfl rfl 30 _ rp1 (by kernel_rfl) ((show _=20 from rfl).trans (show _=20 from rfl).symm) (by kernel_rfl) ?_)|fail)
   exact bodyPost_ret (v:=.tuple #[.agg q20,.int .i64 190]) (results_row_slot Tryd.results5 _ _ (w.heap.size+1) _ q20 _ _ _ rfl (setRow_heap _ _ _ _ _ _ rp1) rfl Tryd.underlying30 rfl (by kernel_rfl)) rfl ⟨rfl,below_setRow hw (by omega) _⟩
end Go.Proofs.YtdcpcdkbhgkmlaaDoor
