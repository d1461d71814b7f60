import Derived.Test.YtdcpcdkbhgkmlaaDoorProg
import Derived.WalkKit
import Derived.WalkSpells
import Derived.WalkLawsBesides
import Derived.Lib.QuietBelow
import Derived.BigQuiet
import Derived.Test.YtdcpcdkbhgkmlaaDoorEKa
import Derived.Test.YtdcpcdkbhgkmlaaDoorEGs
namespace Go.Proofs.YtdcpcdkbhgkmlaaDoor
set_option maxRecDepth 100000
open Go.RowKit Go.Sort
attribute [local go_sem] setCell_drewN alloc_drewN
set_option maxRecDepth 100000 in
set_option maxHeartbeats 4000000 in
theorem root_T {r:Array Value} {x:Int} (h:NumOf r x) (h1e:x^7237005577332262213973186563042994240829374041602535252466099000494570602494*x^7237005577332262213973186563042994240829374041602535252466099000494570602494%prm=x%prm):∃s,NumOf s (ev (x^7237005577332262213973186563042994240829374041602535252466099000494570602494))∧Gives5 93 #[.agg r] (.tuple #[.agg s,.bool true]):=by
 have h1:NumOf r (x^1):=by rw[Int.pow_succ,Int.pow_zero,Int.one_mul];exact h
 obtain⟨xa,xb,ha,hb,c1⟩:=a_climb h
 obtain⟨x4,h4,c4⟩:=p_squares ha 2 (by decide) 7237005577332262213973186563042994240829374041602535252466099000494570602492 (by decide)
 obtain⟨x5,h5,c5⟩:=p_square h1 2 (by decide)
 obtain⟨x6,h6,c6⟩:=p_mul h4 h5 7237005577332262213973186563042994240829374041602535252466099000494570602494 (by decide)
 obtain⟨x10,h10,c10⟩:=a_square h6;have c11:=a_equal_t h10 h h1e;obtain⟨xn,hn,c13⟩:=a_neg h6;have c14:=a_odd_ev h6;obtain⟨xs,xt,yt,hs,ht,c15⟩:=a_swap_ev h6 hn
 refine⟨xs,hs,fun w hF=>?_⟩
 clear h1e
 go_enter Tryd.func93,Tryd.ntmps93
 go_wp2_with (first|(refine wpList_load_want rfl 28 _ rfl (w.heap.size) rfl 28 r (0,0) _ (hp2_0 w _ _) Tryd.underlying28 rfl h.info ?_)|(refine wpList_load_want rfl 28 _ rfl (w.heap.size+1) rfl 28 #[.int .u64 0,.int .u64 0,.int .u64 0,.int .u64 0,.int .u64 0] (0,0) _ (hp2_1 w _ _) Tryd.underlying28 rfl num_zero.info ?_)|fail)
 have rp0:((w.alloc (.cells r 28)).alloc (.cells #[.int .u64 0,.int .u64 0,.int .u64 0,.int .u64 0,.int .u64 0] 28)).heap[w.heap.size]? =some (.cells r 28 (0,0)):=hp2_0 w _ _;have rp1:((w.alloc (.cells r 28)).alloc (.cells #[.int .u64 0,.int .u64 0,.int .u64 0,.int .u64 0,.int .u64 0] 28)).heap[w.heap.size+1]? =some (.cells #[.int .u64 0,.int .u64 0,.int .u64 0,.int .u64 0,.int .u64 0] 28 (0,0)):=hp2_1 w _ _
 have hw:Below w.heap.size w ((w.alloc (.cells r 28)).alloc (.cells #[.int .u64 0,.int .u64 0,.int .u64 0,.int .u64 0,.int .u64 0] 28)):=(((Below.refl _ _).alloc (Nat.le_refl _) _).alloc (by simp) _)
 have hz0:=hF.sz;have f4:Both ((w.alloc (.cells r 28)).alloc (.cells #[.int .u64 0,.int .u64 0,.int .u64 0,.int .u64 0,.int .u64 0] 28)):=((hF.alloc _).alloc _)
 generalize ((w.alloc (.cells r 28)).alloc (.cells #[.int .u64 0,.int .u64 0,.int .u64 0,.int .u64 0,.int .u64 0] 28))=w0 at *
 refine(c1.at _).mono ?_;rintro e w2 ⟨rfl,hb⟩;replace rp0:=keep hb rp0;replace rp1:=keep hb rp1;replace hw:=Below.after hw hb;replace f4:=f4.below hb;clear hb
 go_wp2_with (first|(refine wpList_store_row rfl 28 _ _ rfl (w2.heap.size) xa rfl rfl 28 #[.int .u64 0,.int .u64 0,.int .u64 0,.int .u64 0,.int .u64 0] (hp2_0 w2 _ _) ha.info (ha.fits rfl) ha.one ?_;rw[setRow_alloc_old _ _ _ _ (by simp),setRow_alloc_new _ _ _ _ _ _ (by simp)])|(refine wpList_store_row rfl 28 _ _ rfl (w2.heap.size+1) xb rfl rfl 28 #[.int .u64 0,.int .u64 0,.int .u64 0,.int .u64 0,.int .u64 0] (hp2_1 w2 _ _) hb.info (hb.fits rfl) hb.one ?_;rw[setRow_alloc_new _ _ _ _ _ _ (by simp)])|fail|fail)
 have rl4:((w2.alloc (.cells xa 28)).alloc (.cells xb 28)).heap[w2.heap.size]? =some (.cells xa 28 (0,0)):=hp2_0 w2 _ _;have rl5:((w2.alloc (.cells xa 28)).alloc (.cells xb 28)).heap[w2.heap.size+1]? =some (.cells xb 28 (0,0)):=hp2_1 w2 _ _
 have hb:Below w2.heap.size w2 ((w2.alloc (.cells xa 28)).alloc (.cells xb 28)):=(((Below.refl _ _).alloc (Nat.le_refl _) _).alloc (by simp) _)
 generalize ((w2.alloc (.cells xa 28)).alloc (.cells xb 28))=wa at *
 have yg4_0:=lt_of_row rp0;have yg4_1:=lt_of_row rp1;have yg4:=hw.size;have zg4:=f4.sz;replace rp0:=keep hb rp0;replace rp1:=keep hb rp1;replace hw:=Below.after hw hb;replace f4:=f4.below hb;clear hb
 generalize w2.heap.size=g4 at *
 clear w2
 refine wp_region_alloc_ex 5 6 [6] (fun _=>.cells #[.int .u64 0,.int .u64 0,.int .u64 0,.int .u64 0,.int .u64 0] 28 (0,0)) (by kernel_rfl) (by decide) (by decide) (by kernel_rfl) (by kernel_rfl) (by kernel_rfl) (by kernel_rfl) (by kernel_rfl) (by kernel_rfl) (by kernel_rfl) (by kernel_rfl) (by decide) (by decide) ?_ ?_
 ·intro s l u
  rcases(by omega:s=5) with rfl<;>exact⟨_,_,rfl,rfl,rfl,rfl,fun a w=>by kernel_rfl⟩
 apply Exists.intro
 constructor
 ·intro v3 hb
  have Hrp0:=keepr (keep hb rp0)
  have Hrp1:=keepr (keep hb rp1);have Hrl4:=keepr (keep hb rl4);have Hrl5:=keepr (keep hb rl5);have F4:=f4.below hb;clear hb;dsimp only[List.take];refine wpQuiet_load_row rfl 28 _ rfl (g4) rfl 28 xa (0,0) _ Hrl4.out Tryd.underlying28 rfl ha.info ?_;simp only[Act.put,ZPd,ZPe,ZPf];go_big_quiet_step (exact c4.re);refine wpQuiet_load_row rfl 28 _ rfl (w.heap.size) rfl 28 r (0,0) _ Hrp0.out Tryd.underlying28 rfl h.info ?_;simp only[Act.put,ZPd,ZPe,ZPf];go_big_quiet_step (exact c5.re);go_big_quiet_step (exact c6.re);refine wpQuiet_nil ?_;rfl
 intro w7 g hb hg hd
 obtain⟨lg6,rg6⟩:=hg 6 (by simp)
 replace rg6:w7.heap[g 6]? =some (.cells #[.int .u64 0,.int .u64 0,.int .u64 0,.int .u64 0,.int .u64 0] 28 (0,0)):=rg6;simp only[List.drop,puts,ptrs,List.map,List.foldl,Act.put,List.setIfInBounds_toArray,List.set_cons_succ,List.set_cons_zero];clear hg hd
 generalize g 6=g6 at *
 have lrp0:=lt_of_row rp0;have lrp1:=lt_of_row rp1;have lrl4:=lt_of_row rl4;have lrl5:=lt_of_row rl5;have hs:=hw.size;have hz:=f4.sz;replace rp0:=keep hb rp0;replace rp1:=keep hb rp1;replace rl4:=keep hb rl4;replace rl5:=keep hb rl5;replace hw:=Below.after hw hb;replace f4:=f4.below hb;clear hb;refine wpList_store_row rfl 28 _ _ rfl g6 x6 rfl rfl 28 _ rg6 h6.info (h6.fits rfl) h6.one ?_;simp only[Act.put]
 replace rp0:=(setRow_other w7 g6 (w.heap.size) x6 (by omega)).trans rp0
 replace rp1:=(setRow_other w7 g6 (w.heap.size+1) x6 (by omega)).trans rp1
 replace rl4:=(setRow_other w7 g6 (g4) x6 (by omega)).trans rl4
 replace rl5:=(setRow_other w7 g6 (g4+1) x6 (by omega)).trans rl5
 replace rg6:=setRow_heap w7 g6 _ x6 _ _ rg6
 replace hw:=below_setRow hw (show w.heap.size≤g6 by omega) x6
 replace f4:=f4.setRow (show 4<g6 by omega) x6
 generalize w7.setRow g6 x6=w8 at *
 have yg6_0:w.heap.size<g6:=by omega
 have yg6_1:w.heap.size+1<g6:=by omega
 have yg6_2:g4<g6:=by omega
 have yg6_3:g4+1<g6:=by omega
 have yg6:w.heap.size≤g6:=by omega
 have zg6:4<g6:=by omega
 clear hs hz lrp0 lrp1 lrl4 lrl5 lg6
 go_wp2
 have Hrp0:=keepr rp0;have Hrp1:=keepr rp1;have Hrl4:=keepr rl4;have Hrl5:=keepr rl5;have Hrg6:=keepr rg6
 refine wp_region_quiet_below (by kernel_rfl) (by kernel_rfl) ?_
 refine wpQuiet_load_row rfl 28 _ rfl (g6) rfl 28 x6 (0,0) _ Hrg6.out Tryd.underlying28 rfl h6.info ?_;simp only[Act.put,ZPd,ZPe,ZPf];go_big_quiet_step (exact c10.re);refine wpQuiet_load_row rfl 28 _ rfl (w.heap.size) rfl 28 r (0,0) _ Hrp0.out Tryd.underlying28 rfl h.info ?_;simp only[Act.put,ZPd,ZPe,ZPf];go_big_quiet_step (exact c11.re);go_big_quiet_step (fail);refine wpQuiet_nil ?_;rintro _ ⟨p,rfl⟩;have hb:=below_regrown w8 p.d p.os
 generalize grow (redrawn w8 p.d) p.os=w9 at *
 replace rp0:=keep hb rp0;replace rp1:=keep hb rp1;replace rl4:=keep hb rl4;replace rl5:=keep hb rl5;replace rg6:=keep hb rg6;replace hw:=Below.after hw hb;replace f4:=f4.below hb;clear hb;clear Hrp0 Hrp1 Hrl4 Hrl5 Hrg6
 go_wp2
 have Hrp0:=keepr rp0;have Hrp1:=keepr rp1;have Hrl4:=keepr rl4;have Hrl5:=keepr rl5;have Hrg6:=keepr rg6
 refine wp_region_quiet_below (by kernel_rfl) (by kernel_rfl) ?_
 refine wpQuiet_load_row rfl 28 _ rfl (g6) rfl 28 x6 (0,0) _ Hrg6.out Tryd.underlying28 rfl h6.info ?_;simp only[Act.put,ZPd,ZPe,ZPf];go_big_quiet_step (exact c10.re);refine wpQuiet_load_row rfl 28 _ rfl (w.heap.size) rfl 28 r (0,0) _ Hrp0.out Tryd.underlying28 rfl h.info ?_;simp only[Act.put,ZPd,ZPe,ZPf];go_big_quiet_step (exact c11.re);go_big_quiet_step (fail);refine wpQuiet_nil ?_;rintro _ ⟨p,rfl⟩;have hb:=below_regrown w9 p.d p.os
 generalize grow (redrawn w9 p.d) p.os=w12 at *
 replace rp0:=keep hb rp0;replace rp1:=keep hb rp1;replace rl4:=keep hb rl4;replace rl5:=keep hb rl5;replace rg6:=keep hb rg6;replace hw:=Below.after hw hb;replace f4:=f4.below hb;clear hb;clear Hrp0 Hrp1 Hrl4 Hrl5 Hrg6
 go_wp2
 have Hrp0:=keepr rp0;have Hrp1:=keepr rp1;have Hrl4:=keepr rl4;have Hrl5:=keepr rl5;have Hrg6:=keepr rg6
 refine wp_region_tail2 (C:=fun w'=>∃p:Regrown,w'=grow (redrawn w12 p.d) p.os) 9 8 _ _ rfl rfl (.tmp 31) 1 rfl 39 rfl rfl 28 6 38 rfl (by decide) (by decide) rfl rfl (by kernel_rfl) (by kernel_rfl) (by kernel_rfl) (by kernel_rfl) ⟨⟨w12.drawn+1,#[]⟩,by rw[grow_empty];rfl⟩ ?_
 dsimp only[List.set,idle];refine wpQuiet_load_row rfl 28 _ rfl (g6) rfl 28 x6 (0,0) _ Hrg6.out Tryd.underlying28 rfl h6.info ?_;simp only[Act.put,ZPd,ZPe,ZPf];refine wpQuiet_load_row rfl 28 _ rfl (g6) rfl 28 x6 (0,0) _ Hrg6.out Tryd.underlying28 rfl h6.info ?_;simp only[Act.put,ZPd,ZPe,ZPf];go_big_quiet_step (exact c13.re f4.1);refine wpQuiet_load_row rfl 28 _ rfl (g6) rfl 28 x6 (0,0) _ Hrg6.out Tryd.underlying28 rfl h6.info ?_;simp only[Act.put,ZPd,ZPe,ZPf];go_big_quiet_step (exact c14.re);go_big_quiet_step (exact c15.re);go_big_quiet_step (fail);go_big_quiet_step (fail);go_big_quiet_step (fail);refine wpQuiet_idle rfl rfl rfl ?_;rintro _ ⟨p,rfl⟩;have hb:=below_regrown w12 p.d p.os
 generalize grow (redrawn w12 p.d) p.os=w16 at *
 replace rp0:=keep hb rp0;replace rp1:=keep hb rp1;replace rl4:=keep hb rl4;replace rl5:=keep hb rl5;replace rg6:=keep hb rg6;replace hw:=Below.after hw hb;replace f4:=f4.below hb;clear hb;clear Hrp0 Hrp1 Hrl4 Hrl5 Hrg6;refine⟨_,run_store_op 28 _ _ rfl (g6) xs rfl rfl 28 _ rg6 hs.info (h6.size.trans hs.size.symm) hs.one,?_⟩
 simp only[Exit.then]
 replace rp0:=(setRow_other w16 (g6) (w.heap.size) xs (by first|assumption|omega)).trans rp0
 replace rp1:=(setRow_other w16 (g6) (w.heap.size+1) xs (by first|assumption|omega)).trans rp1
 replace rl4:=(setRow_other w16 (g6) (g4) xs (by first|assumption|omega)).trans rl4
 replace rl5:=(setRow_other w16 (g6) (g4+1) xs (by first|assumption|omega)).trans rl5
 replace rg6:=setRow_heap w16 (g6) _ xs _ _ rg6
 replace hw:=below_setRow hw (show w.heap.size≤g6 by first|assumption|omega) xs
 replace f4:=f4.setRow (show 4<g6 by first|assumption|omega) xs
 generalize w16.setRow (g6) xs=w17 at *
 go_wp2_with (first|(refine wpList_load_want rfl 28 _ rfl (w.heap.size) rfl 28 r (0,0) _ rp0 Tryd.underlying28 rfl h.info ?_)|(refine wpList_load_want rfl 28 _ rfl (w.heap.size+1) rfl 28 #[.int .u64 0,.int .u64 0,.int .u64 0,.int .u64 0,.int .u64 0] (0,0) _ rp1 Tryd.underlying28 rfl num_zero.info ?_)|(refine wpList_load_want rfl 28 _ rfl (g4) rfl 28 xa (0,0) _ rl4 Tryd.underlying28 rfl ha.info ?_)|(refine wpList_load_want rfl 28 _ rfl (g4+1) rfl 28 xb (0,0) _ rl5 Tryd.underlying28 rfl hb.info ?_)|(refine wpList_load_want rfl 28 _ rfl (g6) rfl 28 xs (0,0) _ rg6 Tryd.underlying28 rfl hs.info ?_)|(refine wpList_store_row rfl 28 _ _ rfl (w.heap.size+1) xs rfl rfl 28 _ rp1 hs.info (hs.fits rfl) hs.one ?_)|fail)
 exact bodyPost_ret (v:=.tuple #[.agg xs,.bool true]) (results_row_slot Tryd.results93 _ _ (w.heap.size+1) _ xs _ _ (.bool true) rfl (setRow_heap _ _ _ _ _ _ rp1) rfl Tryd.underlying28 rfl hs.info) rfl ⟨rfl,below_setRow hw (by omega) _⟩
end Go.Proofs.YtdcpcdkbhgkmlaaDoor
namespace Go.Proofs.YtdcpcdkbhgkmlaaDoor
set_option maxRecDepth 100000
open Go.RowKit Go.Sort
attribute [local go_sem] setCell_drewN alloc_drewN
set_option maxRecDepth 100000 in
set_option maxHeartbeats 4000000 in
theorem root_FT {r:Array Value} {x:Int} (h:NumOf r x) (h1e:x^7237005577332262213973186563042994240829374041602535252466099000494570602494*x^7237005577332262213973186563042994240829374041602535252466099000494570602494%prm≠x%prm) (h2e:x^7237005577332262213973186563042994240829374041602535252466099000494570602494*uu*(x^7237005577332262213973186563042994240829374041602535252466099000494570602494*uu)%prm=x%prm):∃s,NumOf s (ev (x^7237005577332262213973186563042994240829374041602535252466099000494570602494*uu))∧Gives5 93 #[.agg r] (.tuple #[.agg s,.bool true]):=by
 have h1:NumOf r (x^1):=by rw[Int.pow_succ,Int.pow_zero,Int.one_mul];exact h
 obtain⟨xa,xb,ha,hb,c1⟩:=a_climb h
 obtain⟨x4,h4,c4⟩:=p_squares ha 2 (by decide) 7237005577332262213973186563042994240829374041602535252466099000494570602492 (by decide)
 obtain⟨x5,h5,c5⟩:=p_square h1 2 (by decide)
 obtain⟨x6,h6,c6⟩:=p_mul h4 h5 7237005577332262213973186563042994240829374041602535252466099000494570602494 (by decide)
 obtain⟨x10,h10,c10⟩:=a_square h6;have c11:=a_equal_f h10 h h1e;obtain⟨x12,h12,c12⟩:=a_mul h6 unit_num;obtain⟨x16,h16,c16⟩:=a_square h12;have c17:=a_equal_t h16 h h2e;obtain⟨xn,hn,c18⟩:=a_neg h12;have c19:=a_odd_ev h12;obtain⟨xs,xt,yt,hs,ht,c20⟩:=a_swap_ev h12 hn
 refine⟨xs,hs,fun w hF=>?_⟩
 clear h1e h2e
 go_enter Tryd.func93,Tryd.ntmps93
 go_wp2_with (first|(refine wpList_load_want rfl 28 _ rfl (w.heap.size) rfl 28 r (0,0) _ (hp2_0 w _ _) Tryd.underlying28 rfl h.info ?_)|(refine wpList_load_want rfl 28 _ rfl (w.heap.size+1) rfl 28 #[.int .u64 0,.int .u64 0,.int .u64 0,.int .u64 0,.int .u64 0] (0,0) _ (hp2_1 w _ _) Tryd.underlying28 rfl num_zero.info ?_)|fail)
 have rp0:((w.alloc (.cells r 28)).alloc (.cells #[.int .u64 0,.int .u64 0,.int .u64 0,.int .u64 0,.int .u64 0] 28)).heap[w.heap.size]? =some (.cells r 28 (0,0)):=hp2_0 w _ _;have rp1:((w.alloc (.cells r 28)).alloc (.cells #[.int .u64 0,.int .u64 0,.int .u64 0,.int .u64 0,.int .u64 0] 28)).heap[w.heap.size+1]? =some (.cells #[.int .u64 0,.int .u64 0,.int .u64 0,.int .u64 0,.int .u64 0] 28 (0,0)):=hp2_1 w _ _
 have hw:Below w.heap.size w ((w.alloc (.cells r 28)).alloc (.cells #[.int .u64 0,.int .u64 0,.int .u64 0,.int .u64 0,.int .u64 0] 28)):=(((Below.refl _ _).alloc (Nat.le_refl _) _).alloc (by simp) _)
 have hz0:=hF.sz;have f4:Both ((w.alloc (.cells r 28)).alloc (.cells #[.int .u64 0,.int .u64 0,.int .u64 0,.int .u64 0,.int .u64 0] 28)):=((hF.alloc _).alloc _)
 generalize ((w.alloc (.cells r 28)).alloc (.cells #[.int .u64 0,.int .u64 0,.int .u64 0,.int .u64 0,.int .u64 0] 28))=w0 at *
 refine(c1.at _).mono ?_;rintro e w2 ⟨rfl,hb⟩;replace rp0:=keep hb rp0;replace rp1:=keep hb rp1;replace hw:=Below.after hw hb;replace f4:=f4.below hb;clear hb
 go_wp2_with (first|(refine wpList_store_row rfl 28 _ _ rfl (w2.heap.size) xa rfl rfl 28 #[.int .u64 0,.int .u64 0,.int .u64 0,.int .u64 0,.int .u64 0] (hp2_0 w2 _ _) ha.info (ha.fits rfl) ha.one ?_;rw[setRow_alloc_old _ _ _ _ (by simp),setRow_alloc_new _ _ _ _ _ _ (by simp)])|(refine wpList_store_row rfl 28 _ _ rfl (w2.heap.size+1) xb rfl rfl 28 #[.int .u64 0,.int .u64 0,.int .u64 0,.int .u64 0,.int .u64 0] (hp2_1 w2 _ _) hb.info (hb.fits rfl) hb.one ?_;rw[setRow_alloc_new _ _ _ _ _ _ (by simp)])|fail|fail)
 have rl4:((w2.alloc (.cells xa 28)).alloc (.cells xb 28)).heap[w2.heap.size]? =some (.cells xa 28 (0,0)):=hp2_0 w2 _ _;have rl5:((w2.alloc (.cells xa 28)).alloc (.cells xb 28)).heap[w2.heap.size+1]? =some (.cells xb 28 (0,0)):=hp2_1 w2 _ _
 have hb:Below w2.heap.size w2 ((w2.alloc (.cells xa 28)).alloc (.cells xb 28)):=(((Below.refl _ _).alloc (Nat.le_refl _) _).alloc (by simp) _)
 generalize ((w2.alloc (.cells xa 28)).alloc (.cells xb 28))=wa at *
 have yg4_0:=lt_of_row rp0;have yg4_1:=lt_of_row rp1;have yg4:=hw.size;have zg4:=f4.sz;replace rp0:=keep hb rp0;replace rp1:=keep hb rp1;replace hw:=Below.after hw hb;replace f4:=f4.below hb;clear hb
 generalize w2.heap.size=g4 at *
 clear w2
 refine wp_region_alloc_ex 5 6 [6] (fun _=>.cells #[.int .u64 0,.int .u64 0,.int .u64 0,.int .u64 0,.int .u64 0] 28 (0,0)) (by kernel_rfl) (by decide) (by decide) (by kernel_rfl) (by kernel_rfl) (by kernel_rfl) (by kernel_rfl) (by kernel_rfl) (by kernel_rfl) (by kernel_rfl) (by kernel_rfl) (by decide) (by decide) ?_ ?_
 ·intro s l u
  rcases(by omega:s=5) with rfl<;>exact⟨_,_,rfl,rfl,rfl,rfl,fun a w=>by kernel_rfl⟩
 apply Exists.intro
 constructor
 ·intro v3 hb
  have Hrp0:=keepr (keep hb rp0)
  have Hrp1:=keepr (keep hb rp1);have Hrl4:=keepr (keep hb rl4);have Hrl5:=keepr (keep hb rl5);have F4:=f4.below hb;clear hb;dsimp only[List.take];refine wpQuiet_load_row rfl 28 _ rfl (g4) rfl 28 xa (0,0) _ Hrl4.out Tryd.underlying28 rfl ha.info ?_;simp only[Act.put,ZPd,ZPe,ZPf];go_big_quiet_step (exact c4.re);refine wpQuiet_load_row rfl 28 _ rfl (w.heap.size) rfl 28 r (0,0) _ Hrp0.out Tryd.underlying28 rfl h.info ?_;simp only[Act.put,ZPd,ZPe,ZPf];go_big_quiet_step (exact c5.re);go_big_quiet_step (exact c6.re);refine wpQuiet_nil ?_;rfl
 intro w7 g hb hg hd
 obtain⟨lg6,rg6⟩:=hg 6 (by simp)
 replace rg6:w7.heap[g 6]? =some (.cells #[.int .u64 0,.int .u64 0,.int .u64 0,.int .u64 0,.int .u64 0] 28 (0,0)):=rg6;simp only[List.drop,puts,ptrs,List.map,List.foldl,Act.put,List.setIfInBounds_toArray,List.set_cons_succ,List.set_cons_zero];clear hg hd
 generalize g 6=g6 at *
 have lrp0:=lt_of_row rp0;have lrp1:=lt_of_row rp1;have lrl4:=lt_of_row rl4;have lrl5:=lt_of_row rl5;have hs:=hw.size;have hz:=f4.sz;replace rp0:=keep hb rp0;replace rp1:=keep hb rp1;replace rl4:=keep hb rl4;replace rl5:=keep hb rl5;replace hw:=Below.after hw hb;replace f4:=f4.below hb;clear hb;refine wpList_store_row rfl 28 _ _ rfl g6 x6 rfl rfl 28 _ rg6 h6.info (h6.fits rfl) h6.one ?_;simp only[Act.put]
 replace rp0:=(setRow_other w7 g6 (w.heap.size) x6 (by omega)).trans rp0
 replace rp1:=(setRow_other w7 g6 (w.heap.size+1) x6 (by omega)).trans rp1
 replace rl4:=(setRow_other w7 g6 (g4) x6 (by omega)).trans rl4
 replace rl5:=(setRow_other w7 g6 (g4+1) x6 (by omega)).trans rl5
 replace rg6:=setRow_heap w7 g6 _ x6 _ _ rg6
 replace hw:=below_setRow hw (show w.heap.size≤g6 by omega) x6
 replace f4:=f4.setRow (show 4<g6 by omega) x6
 generalize w7.setRow g6 x6=w8 at *
 have yg6_0:w.heap.size<g6:=by omega
 have yg6_1:w.heap.size+1<g6:=by omega
 have yg6_2:g4<g6:=by omega
 have yg6_3:g4+1<g6:=by omega
 have yg6:w.heap.size≤g6:=by omega
 have zg6:4<g6:=by omega
 clear hs hz lrp0 lrp1 lrl4 lrl5 lg6
 go_wp2
 have Hrp0:=keepr rp0;have Hrp1:=keepr rp1;have Hrl4:=keepr rl4;have Hrl5:=keepr rl5;have Hrg6:=keepr rg6
 refine wp_region_quiet_below (by kernel_rfl) (by kernel_rfl) ?_
 refine wpQuiet_load_row rfl 28 _ rfl (g6) rfl 28 x6 (0,0) _ Hrg6.out Tryd.underlying28 rfl h6.info ?_;simp only[Act.put,ZPd,ZPe,ZPf];go_big_quiet_step (exact c10.re);refine wpQuiet_load_row rfl 28 _ rfl (w.heap.size) rfl 28 r (0,0) _ Hrp0.out Tryd.underlying28 rfl h.info ?_;simp only[Act.put,ZPd,ZPe,ZPf];go_big_quiet_step (exact c11.re);go_big_quiet_step (fail);refine wpQuiet_nil ?_;rintro _ ⟨p,rfl⟩;have hb:=below_regrown w8 p.d p.os
 generalize grow (redrawn w8 p.d) p.os=w9 at *
 replace rp0:=keep hb rp0;replace rp1:=keep hb rp1;replace rl4:=keep hb rl4;replace rl5:=keep hb rl5;replace rg6:=keep hb rg6;replace hw:=Below.after hw hb;replace f4:=f4.below hb;clear hb;clear Hrp0 Hrp1 Hrl4 Hrl5 Hrg6;obtain⟨tu,fu,hu⟩:=f4.2
 go_wp2_with (first|(refine wpList_load_want rfl 28 _ rfl (w.heap.size) rfl 28 r (0,0) _ rp0 Tryd.underlying28 rfl h.info ?_)|(refine wpList_load_want rfl 28 _ rfl (w.heap.size+1) rfl 28 #[.int .u64 0,.int .u64 0,.int .u64 0,.int .u64 0,.int .u64 0] (0,0) _ rp1 Tryd.underlying28 rfl num_zero.info ?_)|(refine wpList_load_want rfl 28 _ rfl (g4) rfl 28 xa (0,0) _ rl4 Tryd.underlying28 rfl ha.info ?_)|(refine wpList_load_want rfl 28 _ rfl (g4+1) rfl 28 xb (0,0) _ rl5 Tryd.underlying28 rfl hb.info ?_)|(refine wpList_load_want rfl 28 _ rfl (g6) rfl 28 x6 (0,0) _ rg6 Tryd.underlying28 rfl h6.info ?_)|(refine wpList_load_want rfl 28 _ rfl 4 rfl tu ucells fu _ hu Tryd.underlying28 rfl unit_num.info ?_)|fail)
 clear hu;refine(c12.at _).mono ?_;rintro e w13 ⟨rfl,hb⟩;replace rp0:=keep hb rp0;replace rp1:=keep hb rp1;replace rl4:=keep hb rl4;replace rl5:=keep hb rl5;replace rg6:=keep hb rg6;replace hw:=Below.after hw hb;replace f4:=f4.below hb;clear hb
 go_wp2_with (first|(refine wpList_store_row rfl 28 _ _ rfl (g6) x12 rfl rfl 28 _ rg6 h12.info (h6.size.trans h12.size.symm) h12.one ?_)|fail)
 replace rp0:=(setRow_other w13 (g6) (w.heap.size) x12 (by first|assumption|omega)).trans rp0
 replace rp1:=(setRow_other w13 (g6) (w.heap.size+1) x12 (by first|assumption|omega)).trans rp1
 replace rl4:=(setRow_other w13 (g6) (g4) x12 (by first|assumption|omega)).trans rl4
 replace rl5:=(setRow_other w13 (g6) (g4+1) x12 (by first|assumption|omega)).trans rl5
 replace rg6:=setRow_heap w13 (g6) _ x12 _ _ rg6
 replace hw:=below_setRow hw (show w.heap.size≤g6 by first|assumption|omega) x12
 replace f4:=f4.setRow (show 4<g6 by first|assumption|omega) x12
 generalize w13.setRow (g6) x12=w14 at *
 have Hrp0:=keepr rp0;have Hrp1:=keepr rp1;have Hrl4:=keepr rl4;have Hrl5:=keepr rl5;have Hrg6:=keepr rg6
 refine wp_region_quiet_below (by kernel_rfl) (by kernel_rfl) ?_
 refine wpQuiet_load_row rfl 28 _ rfl (g6) rfl 28 x12 (0,0) _ Hrg6.out Tryd.underlying28 rfl h12.info ?_;simp only[Act.put,ZPd,ZPe,ZPf];go_big_quiet_step (exact c16.re);refine wpQuiet_load_row rfl 28 _ rfl (w.heap.size) rfl 28 r (0,0) _ Hrp0.out Tryd.underlying28 rfl h.info ?_;simp only[Act.put,ZPd,ZPe,ZPf];go_big_quiet_step (exact c17.re);go_big_quiet_step (fail);refine wpQuiet_nil ?_;rintro _ ⟨p,rfl⟩;have hb:=below_regrown w14 p.d p.os
 generalize grow (redrawn w14 p.d) p.os=w15 at *
 replace rp0:=keep hb rp0;replace rp1:=keep hb rp1;replace rl4:=keep hb rl4;replace rl5:=keep hb rl5;replace rg6:=keep hb rg6;replace hw:=Below.after hw hb;replace f4:=f4.below hb;clear hb;clear Hrp0 Hrp1 Hrl4 Hrl5 Hrg6
 go_wp2
 have Hrp0:=keepr rp0;have Hrp1:=keepr rp1;have Hrl4:=keepr rl4;have Hrl5:=keepr rl5;have Hrg6:=keepr rg6
 refine wp_region_tail2 (C:=fun w'=>∃p:Regrown,w'=grow (redrawn w15 p.d) p.os) 9 8 _ _ rfl rfl (.tmp 31) 1 rfl 39 rfl rfl 28 6 38 rfl (by decide) (by decide) rfl rfl (by kernel_rfl) (by kernel_rfl) (by kernel_rfl) (by kernel_rfl) ⟨⟨w15.drawn+1,#[]⟩,by rw[grow_empty];rfl⟩ ?_
 dsimp only[List.set,idle];refine wpQuiet_load_row rfl 28 _ rfl (g6) rfl 28 x12 (0,0) _ Hrg6.out Tryd.underlying28 rfl h12.info ?_;simp only[Act.put,ZPd,ZPe,ZPf];refine wpQuiet_load_row rfl 28 _ rfl (g6) rfl 28 x12 (0,0) _ Hrg6.out Tryd.underlying28 rfl h12.info ?_;simp only[Act.put,ZPd,ZPe,ZPf];go_big_quiet_step (exact c18.re f4.1);refine wpQuiet_load_row rfl 28 _ rfl (g6) rfl 28 x12 (0,0) _ Hrg6.out Tryd.underlying28 rfl h12.info ?_;simp only[Act.put,ZPd,ZPe,ZPf];go_big_quiet_step (exact c19.re);go_big_quiet_step (exact c20.re);go_big_quiet_step (fail);go_big_quiet_step (fail);go_big_quiet_step (fail);refine wpQuiet_idle rfl rfl rfl ?_;rintro _ ⟨p,rfl⟩;have hb:=below_regrown w15 p.d p.os
 generalize grow (redrawn w15 p.d) p.os=w21 at *
 replace rp0:=keep hb rp0;replace rp1:=keep hb rp1;replace rl4:=keep hb rl4;replace rl5:=keep hb rl5;replace rg6:=keep hb rg6;replace hw:=Below.after hw hb;replace f4:=f4.below hb;clear hb;clear Hrp0 Hrp1 Hrl4 Hrl5 Hrg6;refine⟨_,run_store_op 28 _ _ rfl (g6) xs rfl rfl 28 _ rg6 hs.info (h12.size.trans hs.size.symm) hs.one,?_⟩
 simp only[Exit.then]
 replace rp0:=(setRow_other w21 (g6) (w.heap.size) xs (by first|assumption|omega)).trans rp0
 replace rp1:=(setRow_other w21 (g6) (w.heap.size+1) xs (by first|assumption|omega)).trans rp1
 replace rl4:=(setRow_other w21 (g6) (g4) xs (by first|assumption|omega)).trans rl4
 replace rl5:=(setRow_other w21 (g6) (g4+1) xs (by first|assumption|omega)).trans rl5
 replace rg6:=setRow_heap w21 (g6) _ xs _ _ rg6
 replace hw:=below_setRow hw (show w.heap.size≤g6 by first|assumption|omega) xs
 replace f4:=f4.setRow (show 4<g6 by first|assumption|omega) xs
 generalize w21.setRow (g6) xs=w22 at *
 go_wp2_with (first|(refine wpList_load_want rfl 28 _ rfl (w.heap.size) rfl 28 r (0,0) _ rp0 Tryd.underlying28 rfl h.info ?_)|(refine wpList_load_want rfl 28 _ rfl (w.heap.size+1) rfl 28 #[.int .u64 0,.int .u64 0,.int .u64 0,.int .u64 0,.int .u64 0] (0,0) _ rp1 Tryd.underlying28 rfl num_zero.info ?_)|(refine wpList_load_want rfl 28 _ rfl (g4) rfl 28 xa (0,0) _ rl4 Tryd.underlying28 rfl ha.info ?_)|(refine wpList_load_want rfl 28 _ rfl (g4+1) rfl 28 xb (0,0) _ rl5 Tryd.underlying28 rfl hb.info ?_)|(refine wpList_load_want rfl 28 _ rfl (g6) rfl 28 xs (0,0) _ rg6 Tryd.underlying28 rfl hs.info ?_)|(refine wpList_store_row rfl 28 _ _ rfl (w.heap.size+1) xs rfl rfl 28 _ rp1 hs.info (hs.fits rfl) hs.one ?_)|fail)
 exact bodyPost_ret (v:=.tuple #[.agg xs,.bool true]) (results_row_slot Tryd.results93 _ _ (w.heap.size+1) _ xs _ _ (.bool true) rfl (setRow_heap _ _ _ _ _ _ rp1) rfl Tryd.underlying28 rfl hs.info) rfl ⟨rfl,below_setRow hw (by omega) _⟩
end Go.Proofs.YtdcpcdkbhgkmlaaDoor
namespace Go.Proofs.YtdcpcdkbhgkmlaaDoor
set_option maxRecDepth 100000
open Go.RowKit Go.Sort
attribute [local go_sem] setCell_drewN alloc_drewN
set_option maxRecDepth 100000 in
set_option maxHeartbeats 4000000 in
theorem root_FF {r:Array Value} {x:Int} (h:NumOf r x) (h1e:x^7237005577332262213973186563042994240829374041602535252466099000494570602494*x^7237005577332262213973186563042994240829374041602535252466099000494570602494%prm≠x%prm) (h2e:x^7237005577332262213973186563042994240829374041602535252466099000494570602494*uu*(x^7237005577332262213973186563042994240829374041602535252466099000494570602494*uu)%prm≠x%prm):∃s,NumOf s 0∧Gives5 93 #[.agg r] (.tuple #[.agg s,.bool false]):=by
 have h1:NumOf r (x^1):=by rw[Int.pow_succ,Int.pow_zero,Int.one_mul];exact h
 obtain⟨xa,xb,ha,hb,c1⟩:=a_climb h
 obtain⟨x4,h4,c4⟩:=p_squares ha 2 (by decide) 7237005577332262213973186563042994240829374041602535252466099000494570602492 (by decide)
 obtain⟨x5,h5,c5⟩:=p_square h1 2 (by decide)
 obtain⟨x6,h6,c6⟩:=p_mul h4 h5 7237005577332262213973186563042994240829374041602535252466099000494570602494 (by decide)
 obtain⟨x10,h10,c10⟩:=a_square h6;have c11:=a_equal_f h10 h h1e;obtain⟨x12,h12,c12⟩:=a_mul h6 unit_num;obtain⟨x16,h16,c16⟩:=a_square h12;have c17:=a_equal_f h16 h h2e
 refine⟨#[.int .u64 0,.int .u64 0,.int .u64 0,.int .u64 0,.int .u64 0],num_zero,fun w hF=>?_⟩
 clear h1e h2e
 go_enter Tryd.func93,Tryd.ntmps93
 go_wp2_with (first|(refine wpList_load_want rfl 28 _ rfl (w.heap.size) rfl 28 r (0,0) _ (hp2_0 w _ _) Tryd.underlying28 rfl h.info ?_)|(refine wpList_load_want rfl 28 _ rfl (w.heap.size+1) rfl 28 #[.int .u64 0,.int .u64 0,.int .u64 0,.int .u64 0,.int .u64 0] (0,0) _ (hp2_1 w _ _) Tryd.underlying28 rfl num_zero.info ?_)|fail)
 have rp0:((w.alloc (.cells r 28)).alloc (.cells #[.int .u64 0,.int .u64 0,.int .u64 0,.int .u64 0,.int .u64 0] 28)).heap[w.heap.size]? =some (.cells r 28 (0,0)):=hp2_0 w _ _;have rp1:((w.alloc (.cells r 28)).alloc (.cells #[.int .u64 0,.int .u64 0,.int .u64 0,.int .u64 0,.int .u64 0] 28)).heap[w.heap.size+1]? =some (.cells #[.int .u64 0,.int .u64 0,.int .u64 0,.int .u64 0,.int .u64 0] 28 (0,0)):=hp2_1 w _ _
 have hw:Below w.heap.size w ((w.alloc (.cells r 28)).alloc (.cells #[.int .u64 0,.int .u64 0,.int .u64 0,.int .u64 0,.int .u64 0] 28)):=(((Below.refl _ _).alloc (Nat.le_refl _) _).alloc (by simp) _)
 have hz0:=hF.sz;have f4:Both ((w.alloc (.cells r 28)).alloc (.cells #[.int .u64 0,.int .u64 0,.int .u64 0,.int .u64 0,.int .u64 0] 28)):=((hF.alloc _).alloc _)
 generalize ((w.alloc (.cells r 28)).alloc (.cells #[.int .u64 0,.int .u64 0,.int .u64 0,.int .u64 0,.int .u64 0] 28))=w0 at *
 refine(c1.at _).mono ?_;rintro e w2 ⟨rfl,hb⟩;replace rp0:=keep hb rp0;replace rp1:=keep hb rp1;replace hw:=Below.after hw hb;replace f4:=f4.below hb;clear hb
 go_wp2_with (first|(refine wpList_store_row rfl 28 _ _ rfl (w2.heap.size) xa rfl rfl 28 #[.int .u64 0,.int .u64 0,.int .u64 0,.int .u64 0,.int .u64 0] (hp2_0 w2 _ _) ha.info (ha.fits rfl) ha.one ?_;rw[setRow_alloc_old _ _ _ _ (by simp),setRow_alloc_new _ _ _ _ _ _ (by simp)])|(refine wpList_store_row rfl 28 _ _ rfl (w2.heap.size+1) xb rfl rfl 28 #[.int .u64 0,.int .u64 0,.int .u64 0,.int .u64 0,.int .u64 0] (hp2_1 w2 _ _) hb.info (hb.fits rfl) hb.one ?_;rw[setRow_alloc_new _ _ _ _ _ _ (by simp)])|fail|fail)
 have rl4:((w2.alloc (.cells xa 28)).alloc (.cells xb 28)).heap[w2.heap.size]? =some (.cells xa 28 (0,0)):=hp2_0 w2 _ _;have rl5:((w2.alloc (.cells xa 28)).alloc (.cells xb 28)).heap[w2.heap.size+1]? =some (.cells xb 28 (0,0)):=hp2_1 w2 _ _
 have hb:Below w2.heap.size w2 ((w2.alloc (.cells xa 28)).alloc (.cells xb 28)):=(((Below.refl _ _).alloc (Nat.le_refl _) _).alloc (by simp) _)
 generalize ((w2.alloc (.cells xa 28)).alloc (.cells xb 28))=wa at *
 have yg4_0:=lt_of_row rp0;have yg4_1:=lt_of_row rp1;have yg4:=hw.size;have zg4:=f4.sz;replace rp0:=keep hb rp0;replace rp1:=keep hb rp1;replace hw:=Below.after hw hb;replace f4:=f4.below hb;clear hb
 generalize w2.heap.size=g4 at *
 clear w2
 refine wp_region_alloc_ex 5 6 [6] (fun _=>.cells #[.int .u64 0,.int .u64 0,.int .u64 0,.int .u64 0,.int .u64 0] 28 (0,0)) (by kernel_rfl) (by decide) (by decide) (by kernel_rfl) (by kernel_rfl) (by kernel_rfl) (by kernel_rfl) (by kernel_rfl) (by kernel_rfl) (by kernel_rfl) (by kernel_rfl) (by decide) (by decide) ?_ ?_
 ·intro s l u
  rcases(by omega:s=5) with rfl<;>exact⟨_,_,rfl,rfl,rfl,rfl,fun a w=>by kernel_rfl⟩
 apply Exists.intro
 constructor
 ·intro v3 hb
  have Hrp0:=keepr (keep hb rp0)
  have Hrp1:=keepr (keep hb rp1);have Hrl4:=keepr (keep hb rl4);have Hrl5:=keepr (keep hb rl5);have F4:=f4.below hb;clear hb;dsimp only[List.take];refine wpQuiet_load_row rfl 28 _ rfl (g4) rfl 28 xa (0,0) _ Hrl4.out Tryd.underlying28 rfl ha.info ?_;simp only[Act.put,ZPd,ZPe,ZPf];go_big_quiet_step (exact c4.re);refine wpQuiet_load_row rfl 28 _ rfl (w.heap.size) rfl 28 r (0,0) _ Hrp0.out Tryd.underlying28 rfl h.info ?_;simp only[Act.put,ZPd,ZPe,ZPf];go_big_quiet_step (exact c5.re);go_big_quiet_step (exact c6.re);refine wpQuiet_nil ?_;rfl
 intro w7 g hb hg hd
 obtain⟨lg6,rg6⟩:=hg 6 (by simp)
 replace rg6:w7.heap[g 6]? =some (.cells #[.int .u64 0,.int .u64 0,.int .u64 0,.int .u64 0,.int .u64 0] 28 (0,0)):=rg6;simp only[List.drop,puts,ptrs,List.map,List.foldl,Act.put,List.setIfInBounds_toArray,List.set_cons_succ,List.set_cons_zero];clear hg hd
 generalize g 6=g6 at *
 have lrp0:=lt_of_row rp0;have lrp1:=lt_of_row rp1;have lrl4:=lt_of_row rl4;have lrl5:=lt_of_row rl5;have hs:=hw.size;have hz:=f4.sz;replace rp0:=keep hb rp0;replace rp1:=keep hb rp1;replace rl4:=keep hb rl4;replace rl5:=keep hb rl5;replace hw:=Below.after hw hb;replace f4:=f4.below hb;clear hb;refine wpList_store_row rfl 28 _ _ rfl g6 x6 rfl rfl 28 _ rg6 h6.info (h6.fits rfl) h6.one ?_;simp only[Act.put]
 replace rp0:=(setRow_other w7 g6 (w.heap.size) x6 (by omega)).trans rp0
 replace rp1:=(setRow_other w7 g6 (w.heap.size+1) x6 (by omega)).trans rp1
 replace rl4:=(setRow_other w7 g6 (g4) x6 (by omega)).trans rl4
 replace rl5:=(setRow_other w7 g6 (g4+1) x6 (by omega)).trans rl5
 replace rg6:=setRow_heap w7 g6 _ x6 _ _ rg6
 replace hw:=below_setRow hw (show w.heap.size≤g6 by omega) x6
 replace f4:=f4.setRow (show 4<g6 by omega) x6
 generalize w7.setRow g6 x6=w8 at *
 have yg6_0:w.heap.size<g6:=by omega
 have yg6_1:w.heap.size+1<g6:=by omega
 have yg6_2:g4<g6:=by omega
 have yg6_3:g4+1<g6:=by omega
 have yg6:w.heap.size≤g6:=by omega
 have zg6:4<g6:=by omega
 clear hs hz lrp0 lrp1 lrl4 lrl5 lg6
 go_wp2
 have Hrp0:=keepr rp0;have Hrp1:=keepr rp1;have Hrl4:=keepr rl4;have Hrl5:=keepr rl5;have Hrg6:=keepr rg6
 refine wp_region_quiet_below (by kernel_rfl) (by kernel_rfl) ?_
 refine wpQuiet_load_row rfl 28 _ rfl (g6) rfl 28 x6 (0,0) _ Hrg6.out Tryd.underlying28 rfl h6.info ?_;simp only[Act.put,ZPd,ZPe,ZPf];go_big_quiet_step (exact c10.re);refine wpQuiet_load_row rfl 28 _ rfl (w.heap.size) rfl 28 r (0,0) _ Hrp0.out Tryd.underlying28 rfl h.info ?_;simp only[Act.put,ZPd,ZPe,ZPf];go_big_quiet_step (exact c11.re);go_big_quiet_step (fail);refine wpQuiet_nil ?_;rintro _ ⟨p,rfl⟩;have hb:=below_regrown w8 p.d p.os
 generalize grow (redrawn w8 p.d) p.os=w9 at *
 replace rp0:=keep hb rp0;replace rp1:=keep hb rp1;replace rl4:=keep hb rl4;replace rl5:=keep hb rl5;replace rg6:=keep hb rg6;replace hw:=Below.after hw hb;replace f4:=f4.below hb;clear hb;clear Hrp0 Hrp1 Hrl4 Hrl5 Hrg6;obtain⟨tu,fu,hu⟩:=f4.2
 go_wp2_with (first|(refine wpList_load_want rfl 28 _ rfl (w.heap.size) rfl 28 r (0,0) _ rp0 Tryd.underlying28 rfl h.info ?_)|(refine wpList_load_want rfl 28 _ rfl (w.heap.size+1) rfl 28 #[.int .u64 0,.int .u64 0,.int .u64 0,.int .u64 0,.int .u64 0] (0,0) _ rp1 Tryd.underlying28 rfl num_zero.info ?_)|(refine wpList_load_want rfl 28 _ rfl (g4) rfl 28 xa (0,0) _ rl4 Tryd.underlying28 rfl ha.info ?_)|(refine wpList_load_want rfl 28 _ rfl (g4+1) rfl 28 xb (0,0) _ rl5 Tryd.underlying28 rfl hb.info ?_)|(refine wpList_load_want rfl 28 _ rfl (g6) rfl 28 x6 (0,0) _ rg6 Tryd.underlying28 rfl h6.info ?_)|(refine wpList_load_want rfl 28 _ rfl 4 rfl tu ucells fu _ hu Tryd.underlying28 rfl unit_num.info ?_)|fail)
 clear hu;refine(c12.at _).mono ?_;rintro e w13 ⟨rfl,hb⟩;replace rp0:=keep hb rp0;replace rp1:=keep hb rp1;replace rl4:=keep hb rl4;replace rl5:=keep hb rl5;replace rg6:=keep hb rg6;replace hw:=Below.after hw hb;replace f4:=f4.below hb;clear hb
 go_wp2_with (first|(refine wpList_store_row rfl 28 _ _ rfl (g6) x12 rfl rfl 28 _ rg6 h12.info (h6.size.trans h12.size.symm) h12.one ?_)|fail)
 replace rp0:=(setRow_other w13 (g6) (w.heap.size) x12 (by first|assumption|omega)).trans rp0
 replace rp1:=(setRow_other w13 (g6) (w.heap.size+1) x12 (by first|assumption|omega)).trans rp1
 replace rl4:=(setRow_other w13 (g6) (g4) x12 (by first|assumption|omega)).trans rl4
 replace rl5:=(setRow_other w13 (g6) (g4+1) x12 (by first|assumption|omega)).trans rl5
 replace rg6:=setRow_heap w13 (g6) _ x12 _ _ rg6
 replace hw:=below_setRow hw (show w.heap.size≤g6 by first|assumption|omega) x12
 replace f4:=f4.setRow (show 4<g6 by first|assumption|omega) x12
 generalize w13.setRow (g6) x12=w14 at *
 have Hrp0:=keepr rp0;have Hrp1:=keepr rp1;have Hrl4:=keepr rl4;have Hrl5:=keepr rl5;have Hrg6:=keepr rg6
 refine wp_region_quiet_below (by kernel_rfl) (by kernel_rfl) ?_
 refine wpQuiet_load_row rfl 28 _ rfl (g6) rfl 28 x12 (0,0) _ Hrg6.out Tryd.underlying28 rfl h12.info ?_;simp only[Act.put,ZPd,ZPe,ZPf];go_big_quiet_step (exact c16.re);refine wpQuiet_load_row rfl 28 _ rfl (w.heap.size) rfl 28 r (0,0) _ Hrp0.out Tryd.underlying28 rfl h.info ?_;simp only[Act.put,ZPd,ZPe,ZPf];go_big_quiet_step (exact c17.re);go_big_quiet_step (fail);refine wpQuiet_nil ?_;rintro _ ⟨p,rfl⟩;have hb:=below_regrown w14 p.d p.os
 generalize grow (redrawn w14 p.d) p.os=w15 at *
 replace rp0:=keep hb rp0;replace rp1:=keep hb rp1;replace rl4:=keep hb rl4;replace rl5:=keep hb rl5;replace rg6:=keep hb rg6;replace hw:=Below.after hw hb;replace f4:=f4.below hb;clear hb;clear Hrp0 Hrp1 Hrl4 Hrl5 Hrg6
 go_wp2_with (first|(refine wpList_load_want rfl 28 _ rfl (w.heap.size) rfl 28 r (0,0) _ rp0 Tryd.underlying28 rfl h.info ?_)|(refine wpList_load_want rfl 28 _ rfl (w.heap.size+1) rfl 28 #[.int .u64 0,.int .u64 0,.int .u64 0,.int .u64 0,.int .u64 0] (0,0) _ rp1 Tryd.underlying28 rfl num_zero.info ?_)|(refine wpList_load_want rfl 28 _ rfl (g4) rfl 28 xa (0,0) _ rl4 Tryd.underlying28 rfl ha.info ?_)|(refine wpList_load_want rfl 28 _ rfl (g4+1) rfl 28 xb (0,0) _ rl5 Tryd.underlying28 rfl hb.info ?_)|(refine wpList_load_want rfl 28 _ rfl (g6) rfl 28 x12 (0,0) _ rg6 Tryd.underlying28 rfl h12.info ?_)|(refine wpList_store_row rfl 28 _ _ rfl (w.heap.size+1) #[.int .u64 0,.int .u64 0,.int .u64 0,.int .u64 0,.int .u64 0] rfl rfl 28 _ rp1 num_zero.info (num_zero.fits rfl) num_zero.one ?_)|fail)
 exact bodyPost_ret (v:=.tuple #[.agg #[.int .u64 0,.int .u64 0,.int .u64 0,.int .u64 0,.int .u64 0],.bool false]) (results_row_slot Tryd.results93 _ _ (w.heap.size+1) _ #[.int .u64 0,.int .u64 0,.int .u64 0,.int .u64 0,.int .u64 0] _ _ (.bool false) rfl (setRow_heap _ _ _ _ _ _ rp1) rfl Tryd.underlying28 rfl num_zero.info) rfl ⟨rfl,below_setRow hw (by omega) _⟩
end Go.Proofs.YtdcpcdkbhgkmlaaDoor
namespace Go.Proofs.YtdcpcdkbhgkmlaaDoor
set_option maxRecDepth 100000
open Go Go.RowKit Go.Sort
theorem a_root {r:Array Value} {x:Int} (h:NumOf r x):∃s,NumOf s (rval x)∧Gives5 93 #[.agg r] (.tuple #[.agg s,.bool (rok x)]):=by
 by_cases h1:x^7237005577332262213973186563042994240829374041602535252466099000494570602494*x^7237005577332262213973186563042994240829374041602535252466099000494570602494%prm=x%prm
 ·have e:rt x=x^7237005577332262213973186563042994240829374041602535252466099000494570602494:=by unfold rt;rw[if_pos h1]
  have k:rok x=true:=by rw[rok_iff,e];exact h1
  have v:rval x=ev (x^7237005577332262213973186563042994240829374041602535252466099000494570602494):=by unfold rval;rw[if_pos k,e]
  rw[k,v];exact root_T h h1
 ·have e:rt x=x^7237005577332262213973186563042994240829374041602535252466099000494570602494*uu:=by unfold rt;rw[if_neg h1]
  by_cases h2:x^7237005577332262213973186563042994240829374041602535252466099000494570602494*uu*(x^7237005577332262213973186563042994240829374041602535252466099000494570602494*uu)%prm=x%prm
  ·have k:rok x=true:=by rw[rok_iff,e];exact h2
   have v:rval x=ev (x^7237005577332262213973186563042994240829374041602535252466099000494570602494*uu):=by unfold rval;rw[if_pos k,e]
   rw[k,v];exact root_FT h h1 h2
  ·have k:rok x=false:=by rw[Bool.eq_false_iff];intro q;rw[rok_iff,e] at q;exact h2 q
   have v:rval x=0:=by unfold rval;rw[k];rfl
   rw[k,v];exact root_FF h h1 h2
end Go.Proofs.YtdcpcdkbhgkmlaaDoor
