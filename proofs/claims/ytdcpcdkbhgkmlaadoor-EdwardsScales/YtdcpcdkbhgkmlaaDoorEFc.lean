import Derived.Test.YtdcpcdkbhgkmlaaDoorProg
import Derived.WalkKit
import Derived.WalkSpells
import Derived.WalkLawsBesides
import Derived.Lib.QuietBelow
import Derived.BigQuiet
import Derived.Test.YtdcpcdkbhgkmlaaDoorEKa
import Derived.Test.YtdcpcdkbhgkmlaaDoorEMa
import Derived.Test.YtdcpcdkbhgkmlaaDoorEGa
namespace Go.Proofs.YtdcpcdkbhgkmlaaDoor
set_option maxRecDepth 100000
open Go.RowKit Go.Sort
attribute [local go_sem] setCell_drewN alloc_drewN
set_option maxHeartbeats 4000000 in
theorem bytes_any (a0 a1 a2 a3 a4:Int) (lo0:0≤a0) (hi0:a0<4503599627370496) (lo1:0≤a1) (hi1:a1<4503599627370496) (lo2:0≤a2) (hi2:a2<4503599627370496) (lo3:0≤a3) (hi3:a3<4503599627370496) (lo4:0≤a4) (hi4:a4<4503599627370496) (w:World):
 Calls Tryd.prog 31 #[.agg #[.int .u64 a0,.int .u64 a1,.int .u64 a2,.int .u64 a3,.int .u64 a4]] w fun r w'=>r=.returned (.agg #[.int .u8 (byt (v5 a0 a1 a2 a3 a4%prm) 0),.int .u8 (byt (v5 a0 a1 a2 a3 a4%prm) 1),.int .u8 (byt (v5 a0 a1 a2 a3 a4%prm) 2),.int .u8 (byt (v5 a0 a1 a2 a3 a4%prm) 3),.int .u8 (byt (v5 a0 a1 a2 a3 a4%prm) 4),.int .u8 (byt (v5 a0 a1 a2 a3 a4%prm) 5),.int .u8 (byt (v5 a0 a1 a2 a3 a4%prm) 6),.int .u8 (byt (v5 a0 a1 a2 a3 a4%prm) 7),.int .u8 (byt (v5 a0 a1 a2 a3 a4%prm) 8),.int .u8 (byt (v5 a0 a1 a2 a3 a4%prm) 9),.int .u8 (byt (v5 a0 a1 a2 a3 a4%prm) 10),.int .u8 (byt (v5 a0 a1 a2 a3 a4%prm) 11),.int .u8 (byt (v5 a0 a1 a2 a3 a4%prm) 12),.int .u8 (byt (v5 a0 a1 a2 a3 a4%prm) 13),.int .u8 (byt (v5 a0 a1 a2 a3 a4%prm) 14),.int .u8 (byt (v5 a0 a1 a2 a3 a4%prm) 15),.int .u8 (byt (v5 a0 a1 a2 a3 a4%prm) 16),.int .u8 (byt (v5 a0 a1 a2 a3 a4%prm) 17),.int .u8 (byt (v5 a0 a1 a2 a3 a4%prm) 18),.int .u8 (byt (v5 a0 a1 a2 a3 a4%prm) 19),.int .u8 (byt (v5 a0 a1 a2 a3 a4%prm) 20),.int .u8 (byt (v5 a0 a1 a2 a3 a4%prm) 21),.int .u8 (byt (v5 a0 a1 a2 a3 a4%prm) 22),.int .u8 (byt (v5 a0 a1 a2 a3 a4%prm) 23),.int .u8 (byt (v5 a0 a1 a2 a3 a4%prm) 24),.int .u8 (byt (v5 a0 a1 a2 a3 a4%prm) 25),.int .u8 (byt (v5 a0 a1 a2 a3 a4%prm) 26),.int .u8 (byt (v5 a0 a1 a2 a3 a4%prm) 27),.int .u8 (byt (v5 a0 a1 a2 a3 a4%prm) 28),.int .u8 (byt (v5 a0 a1 a2 a3 a4%prm) 29),.int .u8 (byt (v5 a0 a1 a2 a3 a4%prm) 30),.int .u8 (byt (v5 a0 a1 a2 a3 a4%prm) 31)])∧Below w.heap.size w w':=by
 have hV0:Hid (0≤v5 a0 a1 a2 a3 a4%prm∧v5 a0 a1 a2 a3 a4%prm<57896044618658097711785492504343953926634992332820282019728792003956564819968):=by unfold Hid prm;omega
 have hL:=fun W=>least_any a0 a1 a2 a3 a4 lo0 hi0 lo1 hi1 lo2 hi2 lo3 hi3 lo4 hi4 W
 generalize v5 a0 a1 a2 a3 a4%prm=V at *
 have HL:=hide hL;clear hL lo0 hi0 lo1 hi1 lo2 hi2 lo3 hi3 lo4 hi4
 go_enter Tryd.func31,Tryd.ntmps31
 go_wp2_with (first|(refine wpList_load_row rfl 28 _ rfl w.heap.size rfl 28 #[.int .u64 a0,.int .u64 a1,.int .u64 a2,.int .u64 a3,.int .u64 a4] (0,0) _ (hp2_0 w _ _) Tryd.underlying28 rfl (by kernel_rfl) ?_)|fail)
 refine(HL.out _).mono ?_;rintro r w1 ⟨rfl,hb⟩;have hs1:=hb.size;simp only[World.size_alloc] at hs1
 have rZ1:w1.heap[w.heap.size+1]? =some (.cells #[.int .u8 0,.int .u8 0,.int .u8 0,.int .u8 0,.int .u8 0,.int .u8 0,.int .u8 0,.int .u8 0,.int .u8 0,.int .u8 0,.int .u8 0,.int .u8 0,.int .u8 0,.int .u8 0,.int .u8 0,.int .u8 0,.int .u8 0,.int .u8 0,.int .u8 0,.int .u8 0,.int .u8 0,.int .u8 0,.int .u8 0,.int .u8 0,.int .u8 0,.int .u8 0,.int .u8 0,.int .u8 0,.int .u8 0,.int .u8 0,.int .u8 0,.int .u8 0] 23 (0,0)):=(hb.block _ (by simp)).trans (hp2_1 w _ _)
 have hbw1:Below w.heap.size w w1:=(((Below.refl _ _).alloc (Nat.le_refl _) _).alloc (by simp) _).trans (hb.mono (by simp;omega))
 clear hb HL;obtain⟨l0,u0⟩:=lb_bd V 0;obtain⟨l1,u1⟩:=lb_bd V 1;obtain⟨l2,u2⟩:=lb_bd V 2;obtain⟨l3,u3⟩:=lb_bd V 3;obtain⟨l4,u4⟩:=lb_bd V 4;have hV:=v5_lb V hV0.out.1 hV0.out.2;have HV:=hide hV;clear hV
 generalize lb V 0=m0 at *;generalize lb V 1=m1 at *;generalize lb V 2=m2 at *;generalize lb V 3=m3 at *;generalize lb V 4=m4 at *
 go_wp2_with (first|(refine wpList_store_row rfl 26 _ _ rfl w1.heap.size #[.int .u64 m0,.int .u64 m1,.int .u64 m2,.int .u64 m3,.int .u64 m4] rfl rfl 26 _ (hp1_0 w1 _) (by kernel_rfl) rfl (by kernel_rfl) ?_;rw[setRow_alloc_new _ _ _ _ _ _ rfl])|go_in)
 obtain⟨N0,hN,HN0,lN0,uN0⟩:∃N:Int,bits .or .u64 m0 (IntKind.u64.wrap (m1*2251799813685248))=N∧Hid (N=m0+m1*2251799813685248%18446744073709551616)∧0≤N∧N<18446744073709551616:=
  ⟨_,rfl,by unfold Hid;rw[IntKind.wrap_u64];exact or_sum 51 m0 _ (by omega) (by omega) (by omega) (by omega) (by omega) (by omega),by rw[IntKind.wrap_u64];rw[or_sum 51 m0 _ (by omega) (by omega) (by omega) (by omega) (by omega) (by omega)];omega,by rw[IntKind.wrap_u64];rw[or_sum 51 m0 _ (by omega) (by omega) (by omega) (by omega) (by omega) (by omega)];omega⟩
 rw[hN];clear hN;refine wp_loop_rounds 9 ?_;rw[rounds_succ]
 go_wp2
 refine wp_region_tail (C:=fun w'=>∃n,w'=World.drewN _ n) 11 _ rfl rfl rfl (by kernel_rfl) (by kernel_rfl) (by kernel_rfl) (by kernel_rfl) ⟨1,rfl⟩ ?_
 dsimp only[List.set,idle]
 repeat (go_big_quiet_step (fail))
 first|refine wpQuiet_nil ?_|refine wpQuiet_idle rfl rfl rfl ?_
 rintro _ ⟨n00,rfl⟩
 go_wp2
 rw[rounds_succ]
 go_wp2
 refine wp_region_tail (C:=fun w'=>∃n,w'=World.drewN _ n) 11 _ rfl rfl rfl (by kernel_rfl) (by kernel_rfl) (by kernel_rfl) (by kernel_rfl) ⟨1,rfl⟩ ?_
 dsimp only[List.set,idle]
 repeat (go_big_quiet_step (fail))
 first|refine wpQuiet_nil ?_|refine wpQuiet_idle rfl rfl rfl ?_
 rintro _ ⟨n01,rfl⟩
 go_wp2
 rw[rounds_succ]
 go_wp2
 refine wp_region_tail (C:=fun w'=>∃n,w'=World.drewN _ n) 11 _ rfl rfl rfl (by kernel_rfl) (by kernel_rfl) (by kernel_rfl) (by kernel_rfl) ⟨1,rfl⟩ ?_
 dsimp only[List.set,idle]
 repeat (go_big_quiet_step (fail))
 first|refine wpQuiet_nil ?_|refine wpQuiet_idle rfl rfl rfl ?_
 rintro _ ⟨n02,rfl⟩
 go_wp2
 rw[rounds_succ]
 go_wp2
 refine wp_region_tail (C:=fun w'=>∃n,w'=World.drewN _ n) 11 _ rfl rfl rfl (by kernel_rfl) (by kernel_rfl) (by kernel_rfl) (by kernel_rfl) ⟨1,rfl⟩ ?_
 dsimp only[List.set,idle]
 repeat (go_big_quiet_step (fail))
 first|refine wpQuiet_nil ?_|refine wpQuiet_idle rfl rfl rfl ?_
 rintro _ ⟨n03,rfl⟩
 go_wp2
 rw[rounds_succ]
 go_wp2
 refine wp_region_tail (C:=fun w'=>∃n,w'=World.drewN _ n) 11 _ rfl rfl rfl (by kernel_rfl) (by kernel_rfl) (by kernel_rfl) (by kernel_rfl) ⟨1,rfl⟩ ?_
 dsimp only[List.set,idle]
 repeat (go_big_quiet_step (fail))
 first|refine wpQuiet_nil ?_|refine wpQuiet_idle rfl rfl rfl ?_
 rintro _ ⟨n04,rfl⟩
 go_wp2
 rw[rounds_succ]
 go_wp2
 refine wp_region_tail (C:=fun w'=>∃n,w'=World.drewN _ n) 11 _ rfl rfl rfl (by kernel_rfl) (by kernel_rfl) (by kernel_rfl) (by kernel_rfl) ⟨1,rfl⟩ ?_
 dsimp only[List.set,idle]
 repeat (go_big_quiet_step (fail))
 first|refine wpQuiet_nil ?_|refine wpQuiet_idle rfl rfl rfl ?_
 rintro _ ⟨n05,rfl⟩
 go_wp2
 rw[rounds_succ]
 go_wp2
 refine wp_region_tail (C:=fun w'=>∃n,w'=World.drewN _ n) 11 _ rfl rfl rfl (by kernel_rfl) (by kernel_rfl) (by kernel_rfl) (by kernel_rfl) ⟨1,rfl⟩ ?_
 dsimp only[List.set,idle]
 repeat (go_big_quiet_step (fail))
 first|refine wpQuiet_nil ?_|refine wpQuiet_idle rfl rfl rfl ?_
 rintro _ ⟨n06,rfl⟩
 go_wp2
 rw[rounds_succ]
 go_wp2
 refine wp_region_tail (C:=fun w'=>∃n,w'=World.drewN _ n) 11 _ rfl rfl rfl (by kernel_rfl) (by kernel_rfl) (by kernel_rfl) (by kernel_rfl) ⟨1,rfl⟩ ?_
 dsimp only[List.set,idle]
 repeat (go_big_quiet_step (fail))
 first|refine wpQuiet_nil ?_|refine wpQuiet_idle rfl rfl rfl ?_
 rintro _ ⟨n07,rfl⟩
 go_wp2
 rw[rounds_succ]
 go_wp2
 go_end0
 go_wp2
 obtain⟨N1,hN,HN1,lN1,uN1⟩:∃N:Int,bits .or .u64 (m1/8192) (IntKind.u64.wrap (m2*274877906944))=N∧Hid (N=m1/8192+m2*274877906944%18446744073709551616)∧0≤N∧N<18446744073709551616:=
  ⟨_,rfl,by unfold Hid;rw[IntKind.wrap_u64];exact or_sum 38 (m1/8192) _ (by omega) (by omega) (by omega) (by omega) (by omega) (by omega),by rw[IntKind.wrap_u64];rw[or_sum 38 (m1/8192) _ (by omega) (by omega) (by omega) (by omega) (by omega) (by omega)];omega,by rw[IntKind.wrap_u64];rw[or_sum 38 (m1/8192) _ (by omega) (by omega) (by omega) (by omega) (by omega) (by omega)];omega⟩
 rw[hN];clear hN;refine wp_loop_rounds 9 ?_;rw[rounds_succ]
 go_wp2
 refine wp_region_tail (C:=fun w'=>∃n,w'=World.drewN _ n) 11 _ rfl rfl rfl (by kernel_rfl) (by kernel_rfl) (by kernel_rfl) (by kernel_rfl) ⟨1,rfl⟩ ?_
 dsimp only[List.set,idle]
 repeat (go_big_quiet_step (fail))
 first|refine wpQuiet_nil ?_|refine wpQuiet_idle rfl rfl rfl ?_
 rintro _ ⟨n10,rfl⟩
 go_wp2
 rw[rounds_succ]
 go_wp2
 refine wp_region_tail (C:=fun w'=>∃n,w'=World.drewN _ n) 11 _ rfl rfl rfl (by kernel_rfl) (by kernel_rfl) (by kernel_rfl) (by kernel_rfl) ⟨1,rfl⟩ ?_
 dsimp only[List.set,idle]
 repeat (go_big_quiet_step (fail))
 first|refine wpQuiet_nil ?_|refine wpQuiet_idle rfl rfl rfl ?_
 rintro _ ⟨n11,rfl⟩
 go_wp2
 rw[rounds_succ]
 go_wp2
 refine wp_region_tail (C:=fun w'=>∃n,w'=World.drewN _ n) 11 _ rfl rfl rfl (by kernel_rfl) (by kernel_rfl) (by kernel_rfl) (by kernel_rfl) ⟨1,rfl⟩ ?_
 dsimp only[List.set,idle]
 repeat (go_big_quiet_step (fail))
 first|refine wpQuiet_nil ?_|refine wpQuiet_idle rfl rfl rfl ?_
 rintro _ ⟨n12,rfl⟩
 go_wp2
 rw[rounds_succ]
 go_wp2
 refine wp_region_tail (C:=fun w'=>∃n,w'=World.drewN _ n) 11 _ rfl rfl rfl (by kernel_rfl) (by kernel_rfl) (by kernel_rfl) (by kernel_rfl) ⟨1,rfl⟩ ?_
 dsimp only[List.set,idle]
 repeat (go_big_quiet_step (fail))
 first|refine wpQuiet_nil ?_|refine wpQuiet_idle rfl rfl rfl ?_
 rintro _ ⟨n13,rfl⟩
 go_wp2
 rw[rounds_succ]
 go_wp2
 refine wp_region_tail (C:=fun w'=>∃n,w'=World.drewN _ n) 11 _ rfl rfl rfl (by kernel_rfl) (by kernel_rfl) (by kernel_rfl) (by kernel_rfl) ⟨1,rfl⟩ ?_
 dsimp only[List.set,idle]
 repeat (go_big_quiet_step (fail))
 first|refine wpQuiet_nil ?_|refine wpQuiet_idle rfl rfl rfl ?_
 rintro _ ⟨n14,rfl⟩
 go_wp2
 rw[rounds_succ]
 go_wp2
 refine wp_region_tail (C:=fun w'=>∃n,w'=World.drewN _ n) 11 _ rfl rfl rfl (by kernel_rfl) (by kernel_rfl) (by kernel_rfl) (by kernel_rfl) ⟨1,rfl⟩ ?_
 dsimp only[List.set,idle]
 repeat (go_big_quiet_step (fail))
 first|refine wpQuiet_nil ?_|refine wpQuiet_idle rfl rfl rfl ?_
 rintro _ ⟨n15,rfl⟩
 go_wp2
 rw[rounds_succ]
 go_wp2
 refine wp_region_tail (C:=fun w'=>∃n,w'=World.drewN _ n) 11 _ rfl rfl rfl (by kernel_rfl) (by kernel_rfl) (by kernel_rfl) (by kernel_rfl) ⟨1,rfl⟩ ?_
 dsimp only[List.set,idle]
 repeat (go_big_quiet_step (fail))
 first|refine wpQuiet_nil ?_|refine wpQuiet_idle rfl rfl rfl ?_
 rintro _ ⟨n16,rfl⟩
 go_wp2
 rw[rounds_succ]
 go_wp2
 refine wp_region_tail (C:=fun w'=>∃n,w'=World.drewN _ n) 11 _ rfl rfl rfl (by kernel_rfl) (by kernel_rfl) (by kernel_rfl) (by kernel_rfl) ⟨1,rfl⟩ ?_
 dsimp only[List.set,idle]
 repeat (go_big_quiet_step (fail))
 first|refine wpQuiet_nil ?_|refine wpQuiet_idle rfl rfl rfl ?_
 rintro _ ⟨n17,rfl⟩
 go_wp2
 rw[rounds_succ]
 go_wp2
 go_end0
 go_wp2
 obtain⟨N2,hN,HN2,lN2,uN2⟩:∃N:Int,bits .or .u64 (m2/67108864) (IntKind.u64.wrap (m3*33554432))=N∧Hid (N=m2/67108864+m3*33554432%18446744073709551616)∧0≤N∧N<18446744073709551616:=
  ⟨_,rfl,by unfold Hid;rw[IntKind.wrap_u64];exact or_sum 25 (m2/67108864) _ (by omega) (by omega) (by omega) (by omega) (by omega) (by omega),by rw[IntKind.wrap_u64];rw[or_sum 25 (m2/67108864) _ (by omega) (by omega) (by omega) (by omega) (by omega) (by omega)];omega,by rw[IntKind.wrap_u64];rw[or_sum 25 (m2/67108864) _ (by omega) (by omega) (by omega) (by omega) (by omega) (by omega)];omega⟩
 rw[hN];clear hN;refine wp_loop_rounds 9 ?_;rw[rounds_succ]
 go_wp2
 refine wp_region_tail (C:=fun w'=>∃n,w'=World.drewN _ n) 11 _ rfl rfl rfl (by kernel_rfl) (by kernel_rfl) (by kernel_rfl) (by kernel_rfl) ⟨1,rfl⟩ ?_
 dsimp only[List.set,idle]
 repeat (go_big_quiet_step (fail))
 first|refine wpQuiet_nil ?_|refine wpQuiet_idle rfl rfl rfl ?_
 rintro _ ⟨n20,rfl⟩
 go_wp2
 rw[rounds_succ]
 go_wp2
 refine wp_region_tail (C:=fun w'=>∃n,w'=World.drewN _ n) 11 _ rfl rfl rfl (by kernel_rfl) (by kernel_rfl) (by kernel_rfl) (by kernel_rfl) ⟨1,rfl⟩ ?_
 dsimp only[List.set,idle]
 repeat (go_big_quiet_step (fail))
 first|refine wpQuiet_nil ?_|refine wpQuiet_idle rfl rfl rfl ?_
 rintro _ ⟨n21,rfl⟩
 go_wp2
 rw[rounds_succ]
 go_wp2
 refine wp_region_tail (C:=fun w'=>∃n,w'=World.drewN _ n) 11 _ rfl rfl rfl (by kernel_rfl) (by kernel_rfl) (by kernel_rfl) (by kernel_rfl) ⟨1,rfl⟩ ?_
 dsimp only[List.set,idle]
 repeat (go_big_quiet_step (fail))
 first|refine wpQuiet_nil ?_|refine wpQuiet_idle rfl rfl rfl ?_
 rintro _ ⟨n22,rfl⟩
 go_wp2
 rw[rounds_succ]
 go_wp2
 refine wp_region_tail (C:=fun w'=>∃n,w'=World.drewN _ n) 11 _ rfl rfl rfl (by kernel_rfl) (by kernel_rfl) (by kernel_rfl) (by kernel_rfl) ⟨1,rfl⟩ ?_
 dsimp only[List.set,idle]
 repeat (go_big_quiet_step (fail))
 first|refine wpQuiet_nil ?_|refine wpQuiet_idle rfl rfl rfl ?_
 rintro _ ⟨n23,rfl⟩
 go_wp2
 rw[rounds_succ]
 go_wp2
 refine wp_region_tail (C:=fun w'=>∃n,w'=World.drewN _ n) 11 _ rfl rfl rfl (by kernel_rfl) (by kernel_rfl) (by kernel_rfl) (by kernel_rfl) ⟨1,rfl⟩ ?_
 dsimp only[List.set,idle]
 repeat (go_big_quiet_step (fail))
 first|refine wpQuiet_nil ?_|refine wpQuiet_idle rfl rfl rfl ?_
 rintro _ ⟨n24,rfl⟩
 go_wp2
 rw[rounds_succ]
 go_wp2
 refine wp_region_tail (C:=fun w'=>∃n,w'=World.drewN _ n) 11 _ rfl rfl rfl (by kernel_rfl) (by kernel_rfl) (by kernel_rfl) (by kernel_rfl) ⟨1,rfl⟩ ?_
 dsimp only[List.set,idle]
 repeat (go_big_quiet_step (fail))
 first|refine wpQuiet_nil ?_|refine wpQuiet_idle rfl rfl rfl ?_
 rintro _ ⟨n25,rfl⟩
 go_wp2
 rw[rounds_succ]
 go_wp2
 refine wp_region_tail (C:=fun w'=>∃n,w'=World.drewN _ n) 11 _ rfl rfl rfl (by kernel_rfl) (by kernel_rfl) (by kernel_rfl) (by kernel_rfl) ⟨1,rfl⟩ ?_
 dsimp only[List.set,idle]
 repeat (go_big_quiet_step (fail))
 first|refine wpQuiet_nil ?_|refine wpQuiet_idle rfl rfl rfl ?_
 rintro _ ⟨n26,rfl⟩
 go_wp2
 rw[rounds_succ]
 go_wp2
 refine wp_region_tail (C:=fun w'=>∃n,w'=World.drewN _ n) 11 _ rfl rfl rfl (by kernel_rfl) (by kernel_rfl) (by kernel_rfl) (by kernel_rfl) ⟨1,rfl⟩ ?_
 dsimp only[List.set,idle]
 repeat (go_big_quiet_step (fail))
 first|refine wpQuiet_nil ?_|refine wpQuiet_idle rfl rfl rfl ?_
 rintro _ ⟨n27,rfl⟩
 go_wp2
 rw[rounds_succ]
 go_wp2
 go_end0
 go_wp2
 obtain⟨N3,hN,HN3,lN3,uN3⟩:∃N:Int,bits .or .u64 (m3/549755813888) (m4*4096)=N∧Hid (N=m3/549755813888+m4*4096)∧0≤N∧N<18446744073709551616:=
  ⟨_,rfl,by unfold Hid;exact or_sum 12 (m3/549755813888) _ (by omega) (by omega) (by omega) (by omega) (by omega) (by omega),by rw[or_sum 12 (m3/549755813888) _ (by omega) (by omega) (by omega) (by omega) (by omega) (by omega)];omega,by rw[or_sum 12 (m3/549755813888) _ (by omega) (by omega) (by omega) (by omega) (by omega) (by omega)];omega⟩
 rw[hN];clear hN;refine wp_loop_rounds 9 ?_;rw[rounds_succ]
 go_wp2
 refine wp_region_tail (C:=fun w'=>∃n,w'=World.drewN _ n) 11 _ rfl rfl rfl (by kernel_rfl) (by kernel_rfl) (by kernel_rfl) (by kernel_rfl) ⟨1,rfl⟩ ?_
 dsimp only[List.set,idle]
 repeat (go_big_quiet_step (fail))
 first|refine wpQuiet_nil ?_|refine wpQuiet_idle rfl rfl rfl ?_
 rintro _ ⟨n30,rfl⟩
 go_wp2
 rw[rounds_succ]
 go_wp2
 refine wp_region_tail (C:=fun w'=>∃n,w'=World.drewN _ n) 11 _ rfl rfl rfl (by kernel_rfl) (by kernel_rfl) (by kernel_rfl) (by kernel_rfl) ⟨1,rfl⟩ ?_
 dsimp only[List.set,idle]
 repeat (go_big_quiet_step (fail))
 first|refine wpQuiet_nil ?_|refine wpQuiet_idle rfl rfl rfl ?_
 rintro _ ⟨n31,rfl⟩
 go_wp2
 rw[rounds_succ]
 go_wp2
 refine wp_region_tail (C:=fun w'=>∃n,w'=World.drewN _ n) 11 _ rfl rfl rfl (by kernel_rfl) (by kernel_rfl) (by kernel_rfl) (by kernel_rfl) ⟨1,rfl⟩ ?_
 dsimp only[List.set,idle]
 repeat (go_big_quiet_step (fail))
 first|refine wpQuiet_nil ?_|refine wpQuiet_idle rfl rfl rfl ?_
 rintro _ ⟨n32,rfl⟩
 go_wp2
 rw[rounds_succ]
 go_wp2
 refine wp_region_tail (C:=fun w'=>∃n,w'=World.drewN _ n) 11 _ rfl rfl rfl (by kernel_rfl) (by kernel_rfl) (by kernel_rfl) (by kernel_rfl) ⟨1,rfl⟩ ?_
 dsimp only[List.set,idle]
 repeat (go_big_quiet_step (fail))
 first|refine wpQuiet_nil ?_|refine wpQuiet_idle rfl rfl rfl ?_
 rintro _ ⟨n33,rfl⟩
 go_wp2
 rw[rounds_succ]
 go_wp2
 refine wp_region_tail (C:=fun w'=>∃n,w'=World.drewN _ n) 11 _ rfl rfl rfl (by kernel_rfl) (by kernel_rfl) (by kernel_rfl) (by kernel_rfl) ⟨1,rfl⟩ ?_
 dsimp only[List.set,idle]
 repeat (go_big_quiet_step (fail))
 first|refine wpQuiet_nil ?_|refine wpQuiet_idle rfl rfl rfl ?_
 rintro _ ⟨n34,rfl⟩
 go_wp2
 rw[rounds_succ]
 go_wp2
 refine wp_region_tail (C:=fun w'=>∃n,w'=World.drewN _ n) 11 _ rfl rfl rfl (by kernel_rfl) (by kernel_rfl) (by kernel_rfl) (by kernel_rfl) ⟨1,rfl⟩ ?_
 dsimp only[List.set,idle]
 repeat (go_big_quiet_step (fail))
 first|refine wpQuiet_nil ?_|refine wpQuiet_idle rfl rfl rfl ?_
 rintro _ ⟨n35,rfl⟩
 go_wp2
 rw[rounds_succ]
 go_wp2
 refine wp_region_tail (C:=fun w'=>∃n,w'=World.drewN _ n) 11 _ rfl rfl rfl (by kernel_rfl) (by kernel_rfl) (by kernel_rfl) (by kernel_rfl) ⟨1,rfl⟩ ?_
 dsimp only[List.set,idle]
 repeat (go_big_quiet_step (fail))
 first|refine wpQuiet_nil ?_|refine wpQuiet_idle rfl rfl rfl ?_
 rintro _ ⟨n36,rfl⟩
 go_wp2
 rw[rounds_succ]
 go_wp2
 refine wp_region_tail (C:=fun w'=>∃n,w'=World.drewN _ n) 11 _ rfl rfl rfl (by kernel_rfl) (by kernel_rfl) (by kernel_rfl) (by kernel_rfl) ⟨1,rfl⟩ ?_
 dsimp only[List.set,idle]
 repeat (go_big_quiet_step (fail))
 first|refine wpQuiet_nil ?_|refine wpQuiet_idle rfl rfl rfl ?_
 rintro _ ⟨n37,rfl⟩
 go_wp2
 rw[rounds_succ]
 go_wp2
 go_end0;dsimp only
 have rZ2:∀(o1 o2:Obj) (k:Nat),(((w1.alloc o1).alloc o2).drewN k).heap[w.heap.size+1]? =some (.cells #[.int .u8 0,.int .u8 0,.int .u8 0,.int .u8 0,.int .u8 0,.int .u8 0,.int .u8 0,.int .u8 0,.int .u8 0,.int .u8 0,.int .u8 0,.int .u8 0,.int .u8 0,.int .u8 0,.int .u8 0,.int .u8 0,.int .u8 0,.int .u8 0,.int .u8 0,.int .u8 0,.int .u8 0,.int .u8 0,.int .u8 0,.int .u8 0,.int .u8 0,.int .u8 0,.int .u8 0,.int .u8 0,.int .u8 0,.int .u8 0,.int .u8 0,.int .u8 0] 23 (0,0)):=fun o1 o2 k=>by
  rw[World.heap_drewN];exact(Go.heap_alloc_old _ _ (by simp;omega)).trans ((Go.heap_alloc_old _ _ (by omega)).trans rZ1)
 have hbw2:∀(o1 o2:Obj) (k:Nat),Below w.heap.size w (((w1.alloc o1).alloc o2).drewN k):=fun o1 o2 k=>below_drN ((hbw1.alloc (by omega) _).alloc (by simp;omega) _) k
 go_wp2_with (first|(refine wpList_load_row rfl 23 _ rfl (w1.heap.size+1) rfl 23 #[.int .u8 (N0%256),.int .u8 (N0/256%256),.int .u8 (N0/65536%256),.int .u8 (N0/16777216%256),.int .u8 (N0/4294967296%256),.int .u8 (N0/1099511627776%256),.int .u8 (N0/281474976710656%256),.int .u8 (N0/72057594037927936),.int .u8 (N1%256),.int .u8 (N1/256%256),.int .u8 (N1/65536%256),.int .u8 (N1/16777216%256),.int .u8 (N1/4294967296%256),.int .u8 (N1/1099511627776%256),.int .u8 (N1/281474976710656%256),.int .u8 (N1/72057594037927936),.int .u8 (N2%256),.int .u8 (N2/256%256),.int .u8 (N2/65536%256),.int .u8 (N2/16777216%256),.int .u8 (N2/4294967296%256),.int .u8 (N2/1099511627776%256),.int .u8 (N2/281474976710656%256),.int .u8 (N2/72057594037927936),.int .u8 (N3%256),.int .u8 (N3/256%256),.int .u8 (N3/65536%256),.int .u8 (N3/16777216%256),.int .u8 (N3/4294967296%256),.int .u8 (N3/1099511627776%256),.int .u8 (N3/281474976710656%256),.int .u8 (N3/72057594037927936)] (0,0) _ (by rw[World.heap_drewN,hp2_1]) Tryd.underlying23 rfl (by kernel_rfl) ?_)|(refine wpList_store_row rfl 23 _ _ rfl (w.heap.size+1) #[.int .u8 (N0%256),.int .u8 (N0/256%256),.int .u8 (N0/65536%256),.int .u8 (N0/16777216%256),.int .u8 (N0/4294967296%256),.int .u8 (N0/1099511627776%256),.int .u8 (N0/281474976710656%256),.int .u8 (N0/72057594037927936),.int .u8 (N1%256),.int .u8 (N1/256%256),.int .u8 (N1/65536%256),.int .u8 (N1/16777216%256),.int .u8 (N1/4294967296%256),.int .u8 (N1/1099511627776%256),.int .u8 (N1/281474976710656%256),.int .u8 (N1/72057594037927936),.int .u8 (N2%256),.int .u8 (N2/256%256),.int .u8 (N2/65536%256),.int .u8 (N2/16777216%256),.int .u8 (N2/4294967296%256),.int .u8 (N2/1099511627776%256),.int .u8 (N2/281474976710656%256),.int .u8 (N2/72057594037927936),.int .u8 (N3%256),.int .u8 (N3/256%256),.int .u8 (N3/65536%256),.int .u8 (N3/16777216%256),.int .u8 (N3/4294967296%256),.int .u8 (N3/1099511627776%256),.int .u8 (N3/281474976710656%256),.int .u8 (N3/72057594037927936)] rfl rfl 23 _ (rZ2 _ _ _) (by kernel_rfl) rfl (by kernel_rfl) ?_)|fail)
 have hVN:V=N0+18446744073709551616*(N1+18446744073709551616*(N2+18446744073709551616*N3)):=by
  rw[HN0.out,HN1.out,HN2.out,HN3.out,words_v5];exact HV.out.symm
 obtain⟨k0,k1,k2,k3,k4,k5,k6,k7,k8,k9,k10,k11,k12,k13,k14,k15,k16,k17,k18,k19,k20,k21,k22,k23,k24,k25,k26,k27,k28,k29,k30,k31⟩:=words_bytes N0 N1 N2 N3 lN0 uN0 lN1 uN1 lN2 uN2 lN3 uN3
 refine bodyPost_ret (v:=.agg #[.int .u8 (N0%256),.int .u8 (N0/256%256),.int .u8 (N0/65536%256),.int .u8 (N0/16777216%256),.int .u8 (N0/4294967296%256),.int .u8 (N0/1099511627776%256),.int .u8 (N0/281474976710656%256),.int .u8 (N0/72057594037927936),.int .u8 (N1%256),.int .u8 (N1/256%256),.int .u8 (N1/65536%256),.int .u8 (N1/16777216%256),.int .u8 (N1/4294967296%256),.int .u8 (N1/1099511627776%256),.int .u8 (N1/281474976710656%256),.int .u8 (N1/72057594037927936),.int .u8 (N2%256),.int .u8 (N2/256%256),.int .u8 (N2/65536%256),.int .u8 (N2/16777216%256),.int .u8 (N2/4294967296%256),.int .u8 (N2/1099511627776%256),.int .u8 (N2/281474976710656%256),.int .u8 (N2/72057594037927936),.int .u8 (N3%256),.int .u8 (N3/256%256),.int .u8 (N3/65536%256),.int .u8 (N3/16777216%256),.int .u8 (N3/4294967296%256),.int .u8 (N3/1099511627776%256),.int .u8 (N3/281474976710656%256),.int .u8 (N3/72057594037927936)]) (results_cell_row Tryd.results31 _ _ (w.heap.size+1) _ _ _ _ rfl (setRow_heap _ _ _ _ _ _ (rZ2 _ _ _)) Tryd.underlying23 rfl (by kernel_rfl)) rfl ⟨?_,below_setRow (hbw2 _ _ _) (by omega) _⟩
 rw[hVN,k0,k1,k2,k3,k4,k5,k6,k7,k8,k9,k10,k11,k12,k13,k14,k15,k16,k17,k18,k19,k20,k21,k22,k23,k24,k25,k26,k27,k28,k29,k30,k31]
end Go.Proofs.YtdcpcdkbhgkmlaaDoor
namespace Go.Proofs.YtdcpcdkbhgkmlaaDoor
set_option maxRecDepth 100000
open Go.RowKit Go.Sort
attribute [local go_sem] setCell_drewN alloc_drewN
set_option maxHeartbeats 1000000 in
theorem mul64_nat (x y:Nat) (hx:x<18446744073709551616) (hy:y<18446744073709551616) (w:World):
 Calls Tryd.prog 102 #[.int .u64 x,.int .u64 y] w fun e w'=>e=.returned (.tuple #[.int .u64 ((x*y/18446744073709551616:Nat):Int),.int .u64 ((x*y%18446744073709551616:Nat):Int)])∧w'=w:=by
 obtain⟨bd,bt,bw,hhi⟩:=Lib.mul64_hi x y hx hy
 have ba:=Lib.half_mul_le (a:=x/4294967296) (b:=y/4294967296) (by omega) (by omega)
 have bb:=Lib.half_mul_le (a:=x/4294967296) (b:=y%4294967296) (by omega) (by omega)
 have bc:=Lib.half_mul_le (a:=x%4294967296) (b:=y/4294967296) (by omega) (by omega)
 have ba':x/4294967296*(y/4294967296)<18446744073709551616:=by omega
 have bb':x/4294967296*(y%4294967296)<18446744073709551616:=by omega
 have bc':x%4294967296*(y/4294967296)<18446744073709551616:=by omega
 have bh1:x/4294967296*(y/4294967296)+(x/4294967296*(y%4294967296)+x%4294967296*(y%4294967296)/4294967296)/4294967296<18446744073709551616:=by omega
 have bh:x/4294967296*(y/4294967296)+(x/4294967296*(y%4294967296)+x%4294967296*(y%4294967296)/4294967296)/4294967296+((x/4294967296*(y%4294967296)+x%4294967296*(y%4294967296)/4294967296)%4294967296+x%4294967296*(y/4294967296))/4294967296<18446744073709551616:=by omega
 go_enter Tryd.func102,Tryd.ntmps102
 go_wp2
 simp only[Mul64.maskN x hx,Mul64.maskN y hy,Mul64.divN,Mul64.mulN,Mul64.addN,Mul64.wrapN _ bd,Mul64.wrapN _ bb',Mul64.wrapN _ bt,Mul64.maskN _ bt,Mul64.wrapN _ bc',Mul64.wrapN _ bw,Mul64.wrapN _ ba',Mul64.wrapN _ bh1,Mul64.wrapN _ bh,Mul64.wrapM (x*y)];rw[hhi];go_ret2;exact⟨rfl,rfl⟩
theorem mul64_any (x y:Int) (hx0:0≤x) (hx:x<18446744073709551616) (hy0:0≤y) (hy:y<18446744073709551616) (w:World):
 Calls Tryd.prog 102 #[.int .u64 x,.int .u64 y] w fun e w'=>e=.returned (.tuple #[.int .u64 (x*y/18446744073709551616),.int .u64 (x*y%18446744073709551616)])∧w'=w:=by
 obtain⟨a,rfl⟩:=Int.eq_ofNat_of_zero_le hx0;obtain⟨b,rfl⟩:=Int.eq_ofNat_of_zero_le hy0
 have h:=mul64_nat a b (by omega) (by omega) w
 simp only[Int.natCast_ediv,Int.natCast_emod,Int.natCast_mul] at h;exact h
set_option maxHeartbeats 1000000 in
theorem product_any (x y:Int) (hx0:0≤x) (hx:x<18446744073709551616) (hy0:0≤y) (hy:y<18446744073709551616) (w:World):
 Calls Tryd.prog 82 #[.int .u64 x,.int .u64 y] w fun e w'=>e=.returned (.agg #[.int .u64 ((x*y)/18446744073709551616),.int .u64 ((x*y)%18446744073709551616)])∧Below w.heap.size w w':=by
 have c:=fun W=>mul64_any x y hx0 hx hy0 hy W
 have C:=hide c;clear c
 generalize x*y=m at *
 go_enter Tryd.func82,Tryd.ntmps82
 go_wp2_with (go_at_call 102;refine(C.out _).mono ?_;rintro e W ⟨rfl,rfl⟩)
 exact bodyPost_ret (v:=.agg #[.int .u64 (m/18446744073709551616),.int .u64 (m%18446744073709551616)]) (results_cell_row Tryd.results82 _ _ w.heap.size _ #[.int .u64 (m/18446744073709551616),.int .u64 (m%18446744073709551616)] _ _ rfl (hp1_0 w _) Tryd.underlying112 rfl (by kernel_rfl)) rfl ⟨rfl,(Below.refl _ _).alloc (Nat.le_refl _) _⟩
theorem add64_call (x y c:Int) (hx:0≤x) (hy:0≤y) (hc0:0≤c) (hc:c≤1) (W:World):(callFunc 103 #[.int .u64 x,.int .u64 y,.int .u64 c]).run Tryd.prog W=.ok (.value (.tuple #[.int .u64 ((x+y+c)%18446744073709551616),.int .u64 ((x+y+c)/18446744073709551616)])) W:=by
 rw[run_callFunc_extern (e:=add64Entry) Tryd.func103 (by kernel_rfl) (by kernel_rfl) (by kernel_rfl) (by kernel_rfl),run_add64 x y c hx hy hc0 hc]
 rfl
set_option maxHeartbeats 1000000 in
theorem plus_any (x a b:Int) (hx0:0≤x) (ha0:0≤a) (ha:a<18446744073709551616) (hb0:0≤b) (hb:b<18446744073709551616) (hs:x+a*b<340282366920938463463374607431768211456) (w:World):
 Calls Tryd.prog 83 #[.agg #[.int .u64 (x/18446744073709551616),.int .u64 (x%18446744073709551616)],.int .u64 a,.int .u64 b] w fun e w'=>e=.returned (.agg #[.int .u64 ((x+a*b)/18446744073709551616),.int .u64 ((x+a*b)%18446744073709551616)])∧Below w.heap.size w w':=by
 have c:=fun W=>mul64_any a b ha0 ha hb0 hb W
 have C:=hide c;clear c;have hm0:0≤a*b:=Int.mul_nonneg ha0 hb0
 generalize a*b=m at *
 have k1:=(wide_high x m hx0 hm0 hs).1
 have a1:=fun W=>add64_call (x%18446744073709551616) (m%18446744073709551616) 0 (by omega) (by omega) (by omega) (by omega) W
 have a2:=fun W=>add64_call (x/18446744073709551616) (m/18446744073709551616) ((x%18446744073709551616+m%18446744073709551616)/18446744073709551616) (by omega) (by omega) (by omega) (by omega) W
 simp only[Int.add_zero] at a1;have K1:=hide k1;clear k1
 go_enter Tryd.func83,Tryd.ntmps83
 go_wp2_with (go_at_call 102;refine(C.out _).mono ?_;rintro e W ⟨rfl,rfl⟩)
 rw[K1.out]
 exact bodyPost_ret (v:=.agg #[.int .u64 ((x+m)/18446744073709551616),.int .u64 ((x+m)%18446744073709551616)]) (results_cell_row Tryd.results83 _ _ (w.heap.size+1) _ #[.int .u64 ((x+m)/18446744073709551616),.int .u64 ((x+m)%18446744073709551616)] _ _ rfl (hp2_1 w _ _) Tryd.underlying112 rfl (by kernel_rfl)) rfl ⟨rfl,((Below.refl _ _).alloc (Nat.le_refl _) _).alloc (by simp) _⟩
set_option maxHeartbeats 1000000 in
theorem rest_any (x:Int) (w:World):
 Calls Tryd.prog 100 #[.agg #[.int .u64 (x/18446744073709551616),.int .u64 (x%18446744073709551616)]] w fun e w'=>e=.returned (.int .u64 (x%2251799813685248))∧Below w.heap.size w w':=by
 go_enter Tryd.func100,Tryd.ntmps100
 go_wp2
 rw[and51 _ (by omega) (by omega)]
 have e1:x%18446744073709551616%2251799813685248=x%2251799813685248:=by omega
 rw[e1];go_ret;exact⟨rfl,(Below.refl _ _).alloc (Nat.le_refl _) _⟩
set_option maxHeartbeats 1000000 in
theorem over_any (x:Int) (h0:0≤x) (h1:x<41538374868278621028243970633760768) (w:World):
 Calls Tryd.prog 101 #[.agg #[.int .u64 (x/18446744073709551616),.int .u64 (x%18446744073709551616)]] w fun e w'=>e=.returned (.int .u64 (x/2251799813685248))∧Below w.heap.size w w':=by
 have h2:x/18446744073709551616<2251799813685248:=by omega
 have h3:0≤x/18446744073709551616:=by omega
 go_enter Tryd.func101,Tryd.ntmps101
 go_wp2
 rw[over_num x h0 h1];go_ret;exact⟨rfl,(Below.refl _ _).alloc (Nat.le_refl _) _⟩
set_option maxHeartbeats 4000000 in
theorem joined_any (r0 r1 r2 r3 r4:Int) (l0:0≤r0) (u0:r0<2596148429267413814265248164610048) (l1:0≤r1) (u1:r1<2596148429267413814265248164610048) (l2:0≤r2) (u2:r2<2596148429267413814265248164610048) (l3:0≤r3) (u3:r3<2596148429267413814265248164610048) (l4:0≤r4) (u4:r4<162259276829213363391578010288128) (w:World):
 Calls Tryd.prog 81 #[.agg #[.int .u64 (r0/18446744073709551616),.int .u64 (r0%18446744073709551616)],.agg #[.int .u64 (r1/18446744073709551616),.int .u64 (r1%18446744073709551616)],.agg #[.int .u64 (r2/18446744073709551616),.int .u64 (r2%18446744073709551616)],.agg #[.int .u64 (r3/18446744073709551616),.int .u64 (r3%18446744073709551616)],.agg #[.int .u64 (r4/18446744073709551616),.int .u64 (r4%18446744073709551616)]] w fun e w'=>e=.returned (.agg #[.int .u64 (jn 0 r0 r1 r2 r3 r4),.int .u64 (jn 1 r0 r1 r2 r3 r4),.int .u64 (jn 2 r0 r1 r2 r3 r4),.int .u64 (jn 3 r0 r1 r2 r3 r4),.int .u64 (jn 4 r0 r1 r2 r3 r4)])∧Below w.heap.size w w':=by
 go_enter Tryd.func81,Tryd.ntmps81
 have HB0:=fun(p:Nat) (cs:Array Value) (hp:((((((w.alloc (.cells #[.int .u64 (r0/18446744073709551616),.int .u64 (r0%18446744073709551616)] 112)).alloc (.cells #[.int .u64 (r1/18446744073709551616),.int .u64 (r1%18446744073709551616)] 112)).alloc (.cells #[.int .u64 (r2/18446744073709551616),.int .u64 (r2%18446744073709551616)] 112)).alloc (.cells #[.int .u64 (r3/18446744073709551616),.int .u64 (r3%18446744073709551616)] 112)).alloc (.cells #[.int .u64 (r4/18446744073709551616),.int .u64 (r4%18446744073709551616)] 112)).alloc (.cells #[.int .u64 0,.int .u64 0,.int .u64 0,.int .u64 0,.int .u64 0] 28)).heap[p]? =some (.cells cs 112 (0,0))) (hlt:p<((((((w.alloc (.cells #[.int .u64 (r0/18446744073709551616),.int .u64 (r0%18446744073709551616)] 112)).alloc (.cells #[.int .u64 (r1/18446744073709551616),.int .u64 (r1%18446744073709551616)] 112)).alloc (.cells #[.int .u64 (r2/18446744073709551616),.int .u64 (r2%18446744073709551616)] 112)).alloc (.cells #[.int .u64 (r3/18446744073709551616),.int .u64 (r3%18446744073709551616)] 112)).alloc (.cells #[.int .u64 (r4/18446744073709551616),.int .u64 (r4%18446744073709551616)] 112)).alloc (.cells #[.int .u64 0,.int .u64 0,.int .u64 0,.int .u64 0,.int .u64 0] 28)).heap.size)=>(fun W (hW:∃q:Regrown,W=grow (redrawn ((((((w.alloc (.cells #[.int .u64 (r0/18446744073709551616),.int .u64 (r0%18446744073709551616)] 112)).alloc (.cells #[.int .u64 (r1/18446744073709551616),.int .u64 (r1%18446744073709551616)] 112)).alloc (.cells #[.int .u64 (r2/18446744073709551616),.int .u64 (r2%18446744073709551616)] 112)).alloc (.cells #[.int .u64 (r3/18446744073709551616),.int .u64 (r3%18446744073709551616)] 112)).alloc (.cells #[.int .u64 (r4/18446744073709551616),.int .u64 (r4%18446744073709551616)] 112)).alloc (.cells #[.int .u64 0,.int .u64 0,.int .u64 0,.int .u64 0,.int .u64 0] 28)) q.d) q.os)=>(by obtain⟨q,rfl⟩:=hW;exact((below_regrown _ q.d q.os).block _ (by exact hlt)).trans (hp):W.heap[p]? =some (.cells cs 112 (0,0))))
 go_wp2
 refine wp_region_quiet_below (by kernel_rfl) (by kernel_rfl) ?_
 refine wpQuiet_load_row rfl 112 _ rfl (w.heap.size) rfl 112 #[.int .u64 (r0/18446744073709551616),.int .u64 (r0%18446744073709551616)] (0,0) _ (HB0 _ _ (hp6_0 w _ _ _ _ _ _) (by simp;try omega)) Tryd.underlying112 rfl (by kernel_rfl) ?_
 simp only[Act.put,ZPd,ZPe,ZPf];go_big_quiet_step (exact Calls.regrown_of (rest_any r0 _))
 refine wpQuiet_load_row rfl 112 _ rfl (w.heap.size+1+1+1+1) rfl 112 #[.int .u64 (r4/18446744073709551616),.int .u64 (r4%18446744073709551616)] (0,0) _ (HB0 _ _ (hp6_4 w _ _ _ _ _ _) (by simp;try omega)) Tryd.underlying112 rfl (by kernel_rfl) ?_
 simp only[Act.put,ZPd,ZPe,ZPf]
 go_big_quiet_step (exact Calls.regrown_of (over_any r4 l4 (by omega) _))
 repeat (go_big_quiet_step (fail))
 refine wpQuiet_nil ?_;rintro _ ⟨q,rfl⟩;have hB0:Below ((((((w.alloc (.cells #[.int .u64 (r0/18446744073709551616),.int .u64 (r0%18446744073709551616)] 112)).alloc (.cells #[.int .u64 (r1/18446744073709551616),.int .u64 (r1%18446744073709551616)] 112)).alloc (.cells #[.int .u64 (r2/18446744073709551616),.int .u64 (r2%18446744073709551616)] 112)).alloc (.cells #[.int .u64 (r3/18446744073709551616),.int .u64 (r3%18446744073709551616)] 112)).alloc (.cells #[.int .u64 (r4/18446744073709551616),.int .u64 (r4%18446744073709551616)] 112)).alloc (.cells #[.int .u64 0,.int .u64 0,.int .u64 0,.int .u64 0,.int .u64 0] 28)).heap.size ((((((w.alloc (.cells #[.int .u64 (r0/18446744073709551616),.int .u64 (r0%18446744073709551616)] 112)).alloc (.cells #[.int .u64 (r1/18446744073709551616),.int .u64 (r1%18446744073709551616)] 112)).alloc (.cells #[.int .u64 (r2/18446744073709551616),.int .u64 (r2%18446744073709551616)] 112)).alloc (.cells #[.int .u64 (r3/18446744073709551616),.int .u64 (r3%18446744073709551616)] 112)).alloc (.cells #[.int .u64 (r4/18446744073709551616),.int .u64 (r4%18446744073709551616)] 112)).alloc (.cells #[.int .u64 0,.int .u64 0,.int .u64 0,.int .u64 0,.int .u64 0] 28)) (grow (redrawn ((((((w.alloc (.cells #[.int .u64 (r0/18446744073709551616),.int .u64 (r0%18446744073709551616)] 112)).alloc (.cells #[.int .u64 (r1/18446744073709551616),.int .u64 (r1%18446744073709551616)] 112)).alloc (.cells #[.int .u64 (r2/18446744073709551616),.int .u64 (r2%18446744073709551616)] 112)).alloc (.cells #[.int .u64 (r3/18446744073709551616),.int .u64 (r3%18446744073709551616)] 112)).alloc (.cells #[.int .u64 (r4/18446744073709551616),.int .u64 (r4%18446744073709551616)] 112)).alloc (.cells #[.int .u64 0,.int .u64 0,.int .u64 0,.int .u64 0,.int .u64 0] 28)) q.d) q.os):=below_regrown _ q.d q.os;clear HB0
 generalize grow (redrawn ((((((w.alloc (.cells #[.int .u64 (r0/18446744073709551616),.int .u64 (r0%18446744073709551616)] 112)).alloc (.cells #[.int .u64 (r1/18446744073709551616),.int .u64 (r1%18446744073709551616)] 112)).alloc (.cells #[.int .u64 (r2/18446744073709551616),.int .u64 (r2%18446744073709551616)] 112)).alloc (.cells #[.int .u64 (r3/18446744073709551616),.int .u64 (r3%18446744073709551616)] 112)).alloc (.cells #[.int .u64 (r4/18446744073709551616),.int .u64 (r4%18446744073709551616)] 112)).alloc (.cells #[.int .u64 0,.int .u64 0,.int .u64 0,.int .u64 0,.int .u64 0] 28)) q.d) q.os=W0 at *
 have HB1:=fun(p:Nat) (cs:Array Value) (hp:((((((w.alloc (.cells #[.int .u64 (r0/18446744073709551616),.int .u64 (r0%18446744073709551616)] 112)).alloc (.cells #[.int .u64 (r1/18446744073709551616),.int .u64 (r1%18446744073709551616)] 112)).alloc (.cells #[.int .u64 (r2/18446744073709551616),.int .u64 (r2%18446744073709551616)] 112)).alloc (.cells #[.int .u64 (r3/18446744073709551616),.int .u64 (r3%18446744073709551616)] 112)).alloc (.cells #[.int .u64 (r4/18446744073709551616),.int .u64 (r4%18446744073709551616)] 112)).alloc (.cells #[.int .u64 0,.int .u64 0,.int .u64 0,.int .u64 0,.int .u64 0] 28)).heap[p]? =some (.cells cs 112 (0,0))) (hlt:p<((((((w.alloc (.cells #[.int .u64 (r0/18446744073709551616),.int .u64 (r0%18446744073709551616)] 112)).alloc (.cells #[.int .u64 (r1/18446744073709551616),.int .u64 (r1%18446744073709551616)] 112)).alloc (.cells #[.int .u64 (r2/18446744073709551616),.int .u64 (r2%18446744073709551616)] 112)).alloc (.cells #[.int .u64 (r3/18446744073709551616),.int .u64 (r3%18446744073709551616)] 112)).alloc (.cells #[.int .u64 (r4/18446744073709551616),.int .u64 (r4%18446744073709551616)] 112)).alloc (.cells #[.int .u64 0,.int .u64 0,.int .u64 0,.int .u64 0,.int .u64 0] 28)).heap.size)=>(fun W (hW:∃q:Regrown,W=grow (redrawn W0 q.d) q.os)=>(by obtain⟨q,rfl⟩:=hW;exact((below_regrown _ q.d q.os).block _ (by have:=hB0.size;omega)).trans ((hB0.block _ hlt).trans hp):W.heap[p]? =some (.cells cs 112 (0,0))))
 go_wp2
 refine wp_region_quiet_below (by kernel_rfl) (by kernel_rfl) ?_
 refine wpQuiet_load_row rfl 112 _ rfl (w.heap.size+1) rfl 112 #[.int .u64 (r1/18446744073709551616),.int .u64 (r1%18446744073709551616)] (0,0) _ (HB1 _ _ (hp6_1 w _ _ _ _ _ _) (by simp;try omega)) Tryd.underlying112 rfl (by kernel_rfl) ?_
 simp only[Act.put,ZPd,ZPe,ZPf];go_big_quiet_step (exact Calls.regrown_of (rest_any r1 _))
 refine wpQuiet_load_row rfl 112 _ rfl (w.heap.size) rfl 112 #[.int .u64 (r0/18446744073709551616),.int .u64 (r0%18446744073709551616)] (0,0) _ (HB1 _ _ (hp6_0 w _ _ _ _ _ _) (by simp;try omega)) Tryd.underlying112 rfl (by kernel_rfl) ?_
 simp only[Act.put,ZPd,ZPe,ZPf]
 go_big_quiet_step (exact Calls.regrown_of (over_any r0 l0 (by omega) _))
 repeat (go_big_quiet_step (fail))
 refine wpQuiet_nil ?_;rintro _ ⟨q,rfl⟩;have hB1:Below ((((((w.alloc (.cells #[.int .u64 (r0/18446744073709551616),.int .u64 (r0%18446744073709551616)] 112)).alloc (.cells #[.int .u64 (r1/18446744073709551616),.int .u64 (r1%18446744073709551616)] 112)).alloc (.cells #[.int .u64 (r2/18446744073709551616),.int .u64 (r2%18446744073709551616)] 112)).alloc (.cells #[.int .u64 (r3/18446744073709551616),.int .u64 (r3%18446744073709551616)] 112)).alloc (.cells #[.int .u64 (r4/18446744073709551616),.int .u64 (r4%18446744073709551616)] 112)).alloc (.cells #[.int .u64 0,.int .u64 0,.int .u64 0,.int .u64 0,.int .u64 0] 28)).heap.size ((((((w.alloc (.cells #[.int .u64 (r0/18446744073709551616),.int .u64 (r0%18446744073709551616)] 112)).alloc (.cells #[.int .u64 (r1/18446744073709551616),.int .u64 (r1%18446744073709551616)] 112)).alloc (.cells #[.int .u64 (r2/18446744073709551616),.int .u64 (r2%18446744073709551616)] 112)).alloc (.cells #[.int .u64 (r3/18446744073709551616),.int .u64 (r3%18446744073709551616)] 112)).alloc (.cells #[.int .u64 (r4/18446744073709551616),.int .u64 (r4%18446744073709551616)] 112)).alloc (.cells #[.int .u64 0,.int .u64 0,.int .u64 0,.int .u64 0,.int .u64 0] 28)) (grow (redrawn W0 q.d) q.os):=hB0.trans ((below_regrown _ q.d q.os).mono hB0.size);clear HB1
 generalize grow (redrawn W0 q.d) q.os=W1 at *
 have HB2:=fun(p:Nat) (cs:Array Value) (hp:((((((w.alloc (.cells #[.int .u64 (r0/18446744073709551616),.int .u64 (r0%18446744073709551616)] 112)).alloc (.cells #[.int .u64 (r1/18446744073709551616),.int .u64 (r1%18446744073709551616)] 112)).alloc (.cells #[.int .u64 (r2/18446744073709551616),.int .u64 (r2%18446744073709551616)] 112)).alloc (.cells #[.int .u64 (r3/18446744073709551616),.int .u64 (r3%18446744073709551616)] 112)).alloc (.cells #[.int .u64 (r4/18446744073709551616),.int .u64 (r4%18446744073709551616)] 112)).alloc (.cells #[.int .u64 0,.int .u64 0,.int .u64 0,.int .u64 0,.int .u64 0] 28)).heap[p]? =some (.cells cs 112 (0,0))) (hlt:p<((((((w.alloc (.cells #[.int .u64 (r0/18446744073709551616),.int .u64 (r0%18446744073709551616)] 112)).alloc (.cells #[.int .u64 (r1/18446744073709551616),.int .u64 (r1%18446744073709551616)] 112)).alloc (.cells #[.int .u64 (r2/18446744073709551616),.int .u64 (r2%18446744073709551616)] 112)).alloc (.cells #[.int .u64 (r3/18446744073709551616),.int .u64 (r3%18446744073709551616)] 112)).alloc (.cells #[.int .u64 (r4/18446744073709551616),.int .u64 (r4%18446744073709551616)] 112)).alloc (.cells #[.int .u64 0,.int .u64 0,.int .u64 0,.int .u64 0,.int .u64 0] 28)).heap.size)=>(fun W (hW:∃q:Regrown,W=grow (redrawn W1 q.d) q.os)=>(by obtain⟨q,rfl⟩:=hW;exact((below_regrown _ q.d q.os).block _ (by have:=hB1.size;omega)).trans ((hB1.block _ hlt).trans hp):W.heap[p]? =some (.cells cs 112 (0,0))))
 go_wp2
 refine wp_region_quiet_below (by kernel_rfl) (by kernel_rfl) ?_
 refine wpQuiet_load_row rfl 112 _ rfl (w.heap.size+1+1) rfl 112 #[.int .u64 (r2/18446744073709551616),.int .u64 (r2%18446744073709551616)] (0,0) _ (HB2 _ _ (hp6_2 w _ _ _ _ _ _) (by simp;try omega)) Tryd.underlying112 rfl (by kernel_rfl) ?_
 simp only[Act.put,ZPd,ZPe,ZPf];go_big_quiet_step (exact Calls.regrown_of (rest_any r2 _))
 refine wpQuiet_load_row rfl 112 _ rfl (w.heap.size+1) rfl 112 #[.int .u64 (r1/18446744073709551616),.int .u64 (r1%18446744073709551616)] (0,0) _ (HB2 _ _ (hp6_1 w _ _ _ _ _ _) (by simp;try omega)) Tryd.underlying112 rfl (by kernel_rfl) ?_
 simp only[Act.put,ZPd,ZPe,ZPf]
 go_big_quiet_step (exact Calls.regrown_of (over_any r1 l1 (by omega) _))
 repeat (go_big_quiet_step (fail))
 refine wpQuiet_nil ?_;rintro _ ⟨q,rfl⟩;have hB2:Below ((((((w.alloc (.cells #[.int .u64 (r0/18446744073709551616),.int .u64 (r0%18446744073709551616)] 112)).alloc (.cells #[.int .u64 (r1/18446744073709551616),.int .u64 (r1%18446744073709551616)] 112)).alloc (.cells #[.int .u64 (r2/18446744073709551616),.int .u64 (r2%18446744073709551616)] 112)).alloc (.cells #[.int .u64 (r3/18446744073709551616),.int .u64 (r3%18446744073709551616)] 112)).alloc (.cells #[.int .u64 (r4/18446744073709551616),.int .u64 (r4%18446744073709551616)] 112)).alloc (.cells #[.int .u64 0,.int .u64 0,.int .u64 0,.int .u64 0,.int .u64 0] 28)).heap.size ((((((w.alloc (.cells #[.int .u64 (r0/18446744073709551616),.int .u64 (r0%18446744073709551616)] 112)).alloc (.cells #[.int .u64 (r1/18446744073709551616),.int .u64 (r1%18446744073709551616)] 112)).alloc (.cells #[.int .u64 (r2/18446744073709551616),.int .u64 (r2%18446744073709551616)] 112)).alloc (.cells #[.int .u64 (r3/18446744073709551616),.int .u64 (r3%18446744073709551616)] 112)).alloc (.cells #[.int .u64 (r4/18446744073709551616),.int .u64 (r4%18446744073709551616)] 112)).alloc (.cells #[.int .u64 0,.int .u64 0,.int .u64 0,.int .u64 0,.int .u64 0] 28)) (grow (redrawn W1 q.d) q.os):=hB1.trans ((below_regrown _ q.d q.os).mono hB1.size);clear HB2
 generalize grow (redrawn W1 q.d) q.os=W2 at *
 have HB3:=fun(p:Nat) (cs:Array Value) (hp:((((((w.alloc (.cells #[.int .u64 (r0/18446744073709551616),.int .u64 (r0%18446744073709551616)] 112)).alloc (.cells #[.int .u64 (r1/18446744073709551616),.int .u64 (r1%18446744073709551616)] 112)).alloc (.cells #[.int .u64 (r2/18446744073709551616),.int .u64 (r2%18446744073709551616)] 112)).alloc (.cells #[.int .u64 (r3/18446744073709551616),.int .u64 (r3%18446744073709551616)] 112)).alloc (.cells #[.int .u64 (r4/18446744073709551616),.int .u64 (r4%18446744073709551616)] 112)).alloc (.cells #[.int .u64 0,.int .u64 0,.int .u64 0,.int .u64 0,.int .u64 0] 28)).heap[p]? =some (.cells cs 112 (0,0))) (hlt:p<((((((w.alloc (.cells #[.int .u64 (r0/18446744073709551616),.int .u64 (r0%18446744073709551616)] 112)).alloc (.cells #[.int .u64 (r1/18446744073709551616),.int .u64 (r1%18446744073709551616)] 112)).alloc (.cells #[.int .u64 (r2/18446744073709551616),.int .u64 (r2%18446744073709551616)] 112)).alloc (.cells #[.int .u64 (r3/18446744073709551616),.int .u64 (r3%18446744073709551616)] 112)).alloc (.cells #[.int .u64 (r4/18446744073709551616),.int .u64 (r4%18446744073709551616)] 112)).alloc (.cells #[.int .u64 0,.int .u64 0,.int .u64 0,.int .u64 0,.int .u64 0] 28)).heap.size)=>(fun W (hW:∃q:Regrown,W=grow (redrawn W2 q.d) q.os)=>(by obtain⟨q,rfl⟩:=hW;exact((below_regrown _ q.d q.os).block _ (by have:=hB2.size;omega)).trans ((hB2.block _ hlt).trans hp):W.heap[p]? =some (.cells cs 112 (0,0))))
 go_wp2
 refine wp_region_quiet_below (by kernel_rfl) (by kernel_rfl) ?_
 refine wpQuiet_load_row rfl 112 _ rfl (w.heap.size+1+1+1) rfl 112 #[.int .u64 (r3/18446744073709551616),.int .u64 (r3%18446744073709551616)] (0,0) _ (HB3 _ _ (hp6_3 w _ _ _ _ _ _) (by simp;try omega)) Tryd.underlying112 rfl (by kernel_rfl) ?_
 simp only[Act.put,ZPd,ZPe,ZPf];go_big_quiet_step (exact Calls.regrown_of (rest_any r3 _))
 refine wpQuiet_load_row rfl 112 _ rfl (w.heap.size+1+1) rfl 112 #[.int .u64 (r2/18446744073709551616),.int .u64 (r2%18446744073709551616)] (0,0) _ (HB3 _ _ (hp6_2 w _ _ _ _ _ _) (by simp;try omega)) Tryd.underlying112 rfl (by kernel_rfl) ?_
 simp only[Act.put,ZPd,ZPe,ZPf]
 go_big_quiet_step (exact Calls.regrown_of (over_any r2 l2 (by omega) _))
 repeat (go_big_quiet_step (fail))
 refine wpQuiet_nil ?_;rintro _ ⟨q,rfl⟩;have hB3:Below ((((((w.alloc (.cells #[.int .u64 (r0/18446744073709551616),.int .u64 (r0%18446744073709551616)] 112)).alloc (.cells #[.int .u64 (r1/18446744073709551616),.int .u64 (r1%18446744073709551616)] 112)).alloc (.cells #[.int .u64 (r2/18446744073709551616),.int .u64 (r2%18446744073709551616)] 112)).alloc (.cells #[.int .u64 (r3/18446744073709551616),.int .u64 (r3%18446744073709551616)] 112)).alloc (.cells #[.int .u64 (r4/18446744073709551616),.int .u64 (r4%18446744073709551616)] 112)).alloc (.cells #[.int .u64 0,.int .u64 0,.int .u64 0,.int .u64 0,.int .u64 0] 28)).heap.size ((((((w.alloc (.cells #[.int .u64 (r0/18446744073709551616),.int .u64 (r0%18446744073709551616)] 112)).alloc (.cells #[.int .u64 (r1/18446744073709551616),.int .u64 (r1%18446744073709551616)] 112)).alloc (.cells #[.int .u64 (r2/18446744073709551616),.int .u64 (r2%18446744073709551616)] 112)).alloc (.cells #[.int .u64 (r3/18446744073709551616),.int .u64 (r3%18446744073709551616)] 112)).alloc (.cells #[.int .u64 (r4/18446744073709551616),.int .u64 (r4%18446744073709551616)] 112)).alloc (.cells #[.int .u64 0,.int .u64 0,.int .u64 0,.int .u64 0,.int .u64 0] 28)) (grow (redrawn W2 q.d) q.os):=hB2.trans ((below_regrown _ q.d q.os).mono hB2.size);clear HB3
 generalize grow (redrawn W2 q.d) q.os=W3 at *
 have HB4:=fun(p:Nat) (cs:Array Value) (hp:((((((w.alloc (.cells #[.int .u64 (r0/18446744073709551616),.int .u64 (r0%18446744073709551616)] 112)).alloc (.cells #[.int .u64 (r1/18446744073709551616),.int .u64 (r1%18446744073709551616)] 112)).alloc (.cells #[.int .u64 (r2/18446744073709551616),.int .u64 (r2%18446744073709551616)] 112)).alloc (.cells #[.int .u64 (r3/18446744073709551616),.int .u64 (r3%18446744073709551616)] 112)).alloc (.cells #[.int .u64 (r4/18446744073709551616),.int .u64 (r4%18446744073709551616)] 112)).alloc (.cells #[.int .u64 0,.int .u64 0,.int .u64 0,.int .u64 0,.int .u64 0] 28)).heap[p]? =some (.cells cs 112 (0,0))) (hlt:p<((((((w.alloc (.cells #[.int .u64 (r0/18446744073709551616),.int .u64 (r0%18446744073709551616)] 112)).alloc (.cells #[.int .u64 (r1/18446744073709551616),.int .u64 (r1%18446744073709551616)] 112)).alloc (.cells #[.int .u64 (r2/18446744073709551616),.int .u64 (r2%18446744073709551616)] 112)).alloc (.cells #[.int .u64 (r3/18446744073709551616),.int .u64 (r3%18446744073709551616)] 112)).alloc (.cells #[.int .u64 (r4/18446744073709551616),.int .u64 (r4%18446744073709551616)] 112)).alloc (.cells #[.int .u64 0,.int .u64 0,.int .u64 0,.int .u64 0,.int .u64 0] 28)).heap.size)=>(fun W (hW:∃q:Regrown,W=grow (redrawn W3 q.d) q.os)=>(by obtain⟨q,rfl⟩:=hW;exact((below_regrown _ q.d q.os).block _ (by have:=hB3.size;omega)).trans ((hB3.block _ hlt).trans hp):W.heap[p]? =some (.cells cs 112 (0,0))))
 go_wp2
 refine wp_region_quiet_below (by kernel_rfl) (by kernel_rfl) ?_
 refine wpQuiet_load_row rfl 112 _ rfl (w.heap.size+1+1+1+1) rfl 112 #[.int .u64 (r4/18446744073709551616),.int .u64 (r4%18446744073709551616)] (0,0) _ (HB4 _ _ (hp6_4 w _ _ _ _ _ _) (by simp;try omega)) Tryd.underlying112 rfl (by kernel_rfl) ?_
 simp only[Act.put,ZPd,ZPe,ZPf];go_big_quiet_step (exact Calls.regrown_of (rest_any r4 _))
 refine wpQuiet_load_row rfl 112 _ rfl (w.heap.size+1+1+1) rfl 112 #[.int .u64 (r3/18446744073709551616),.int .u64 (r3%18446744073709551616)] (0,0) _ (HB4 _ _ (hp6_3 w _ _ _ _ _ _) (by simp;try omega)) Tryd.underlying112 rfl (by kernel_rfl) ?_
 simp only[Act.put,ZPd,ZPe,ZPf]
 go_big_quiet_step (exact Calls.regrown_of (over_any r3 l3 (by omega) _))
 repeat (go_big_quiet_step (fail))
 refine wpQuiet_nil ?_;rintro _ ⟨q,rfl⟩;have hB4:Below ((((((w.alloc (.cells #[.int .u64 (r0/18446744073709551616),.int .u64 (r0%18446744073709551616)] 112)).alloc (.cells #[.int .u64 (r1/18446744073709551616),.int .u64 (r1%18446744073709551616)] 112)).alloc (.cells #[.int .u64 (r2/18446744073709551616),.int .u64 (r2%18446744073709551616)] 112)).alloc (.cells #[.int .u64 (r3/18446744073709551616),.int .u64 (r3%18446744073709551616)] 112)).alloc (.cells #[.int .u64 (r4/18446744073709551616),.int .u64 (r4%18446744073709551616)] 112)).alloc (.cells #[.int .u64 0,.int .u64 0,.int .u64 0,.int .u64 0,.int .u64 0] 28)).heap.size ((((((w.alloc (.cells #[.int .u64 (r0/18446744073709551616),.int .u64 (r0%18446744073709551616)] 112)).alloc (.cells #[.int .u64 (r1/18446744073709551616),.int .u64 (r1%18446744073709551616)] 112)).alloc (.cells #[.int .u64 (r2/18446744073709551616),.int .u64 (r2%18446744073709551616)] 112)).alloc (.cells #[.int .u64 (r3/18446744073709551616),.int .u64 (r3%18446744073709551616)] 112)).alloc (.cells #[.int .u64 (r4/18446744073709551616),.int .u64 (r4%18446744073709551616)] 112)).alloc (.cells #[.int .u64 0,.int .u64 0,.int .u64 0,.int .u64 0,.int .u64 0] 28)) (grow (redrawn W3 q.d) q.os):=hB3.trans ((below_regrown _ q.d q.os).mono hB3.size);clear HB4
 generalize grow (redrawn W3 q.d) q.os=W4 at *
 have rZ:W4.heap[w.heap.size+1+1+1+1+1]? =some (.cells #[.int .u64 0,.int .u64 0,.int .u64 0,.int .u64 0,.int .u64 0] 28 (0,0)):=(hB4.block _ (by simp)).trans (hp6_5 w _ _ _ _ _ _)
 have hbw:Below w.heap.size w W4:=((((((((Below.refl _ _).alloc (Nat.le_refl _) _).alloc (by simp) _).alloc (by simp;omega) _).alloc (by simp;omega) _).alloc (by simp;omega) _).alloc (by simp;omega) _)).trans (hB4.mono (by simp;omega))
 clear hB0 hB1 hB2 hB3 hB4
 go_wp2_with (first|(refine wpList_store_row rfl 28 _ _ rfl (w.heap.size+1+1+1+1+1) _ rfl rfl 28 _ rZ (by kernel_rfl) rfl (by kernel_rfl) ?_)|fail)
 rw[and51 (r0%2251799813685248+19*(r4/2251799813685248)) (by omega) (by omega),and51 (r1%2251799813685248+r0/2251799813685248) (by omega) (by omega),and51 (r2%2251799813685248+r1/2251799813685248) (by omega) (by omega),and51 (r3%2251799813685248+r2/2251799813685248) (by omega) (by omega),and51 (r4%2251799813685248+r3/2251799813685248) (by omega) (by omega)]
 obtain⟨k0,k1,k2,k3,k4⟩:=jn_wrap r0 r1 r2 r3 r4 l0 u0 l1 u1 l2 u2 l3 u3 l4 u4;rw[k0,k1,k2,k3,k4]
 exact bodyPost_ret (v:=.agg #[.int .u64 (jn 0 r0 r1 r2 r3 r4),.int .u64 (jn 1 r0 r1 r2 r3 r4),.int .u64 (jn 2 r0 r1 r2 r3 r4),.int .u64 (jn 3 r0 r1 r2 r3 r4),.int .u64 (jn 4 r0 r1 r2 r3 r4)]) (results_cell_row Tryd.results81 _ _ (w.heap.size+1+1+1+1+1) _ #[.int .u64 (jn 0 r0 r1 r2 r3 r4),.int .u64 (jn 1 r0 r1 r2 r3 r4),.int .u64 (jn 2 r0 r1 r2 r3 r4),.int .u64 (jn 3 r0 r1 r2 r3 r4),.int .u64 (jn 4 r0 r1 r2 r3 r4)] _ _ rfl (setRow_heap _ _ _ _ _ _ rZ) Tryd.underlying28 rfl (by kernel_rfl)) rfl ⟨rfl,below_setRow hbw (by omega) _⟩
end Go.Proofs.YtdcpcdkbhgkmlaaDoor
