import Derived.Test.YtdcpcdkbhgkmlaaDoorProg
import Derived.WalkKit
import Derived.WalkSpells
import Derived.WalkLawsBesides
import Derived.Lib.QuietBelow
import Derived.BigQuiet
import Derived.Test.YtdcpcdkbhgkmlaaDoorEKa
import Derived.Test.YtdcpcdkbhgkmlaaDoorEMa
import Derived.Test.YtdcpcdkbhgkmlaaDoorEFc
namespace Go.Proofs.YtdcpcdkbhgkmlaaDoor
set_option maxRecDepth 100000
open Go.RowKit Go.Sort
attribute [local go_sem] setCell_drewN alloc_drewN
set_option maxHeartbeats 2000000 in
theorem times_any (a0 a1 a2 a3 a4 m:Int) (la0:0≤a0) (ua0:a0<4503599627370496) (la1:0≤a1) (ua1:a1<4503599627370496) (la2:0≤a2) (ua2:a2<4503599627370496) (la3:0≤a3) (ua3:a3<4503599627370496) (la4:0≤a4) (ua4:a4<4503599627370496) (lm:0≤m) (um:m<4294967296) (w:World):
 Calls Tryd.prog 92 #[.agg #[.int .u64 a0,.int .u64 a1,.int .u64 a2,.int .u64 a3,.int .u64 a4],.int .u32 m] w fun e w'=>e=.returned (.agg #[.int .u64 (jn 0 (a0*m) (a1*m) (a2*m) (a3*m) (a4*m)),.int .u64 (jn 1 (a0*m) (a1*m) (a2*m) (a3*m) (a4*m)),.int .u64 (jn 2 (a0*m) (a1*m) (a2*m) (a3*m) (a4*m)),.int .u64 (jn 3 (a0*m) (a1*m) (a2*m) (a3*m) (a4*m)),.int .u64 (jn 4 (a0*m) (a1*m) (a2*m) (a3*m) (a4*m))])∧Below w.heap.size w w':=by
 have p0:=mul_bd a0 m 4503599627370496 4294967296 la0 (Int.le_of_lt ua0) lm (Int.le_of_lt um);have p1:=mul_bd a1 m 4503599627370496 4294967296 la1 (Int.le_of_lt ua1) lm (Int.le_of_lt um);have p2:=mul_bd a2 m 4503599627370496 4294967296 la2 (Int.le_of_lt ua2) lm (Int.le_of_lt um);have p3:=mul_bd a3 m 4503599627370496 4294967296 la3 (Int.le_of_lt ua3) lm (Int.le_of_lt um);have p4:=mul_bd a4 m 4503599627370496 4294967296 la4 (Int.le_of_lt ua4) lm (Int.le_of_lt um)
 have e0:=fun W=>product_any a0 m la0 (by omega) lm (by omega) W;have e1:=fun W=>product_any a1 m la1 (by omega) lm (by omega) W;have e2:=fun W=>product_any a2 m la2 (by omega) lm (by omega) W;have e3:=fun W=>product_any a3 m la3 (by omega) lm (by omega) W;have e4:=fun W=>product_any a4 m la4 (by omega) lm (by omega) W
 have e5:=fun W=>joined_any (a0*m) (a1*m) (a2*m) (a3*m) (a4*m) p0.1 (by have:=p0.2;omega) p1.1 (by have:=p1.2;omega) p2.1 (by have:=p2.2;omega) p3.1 (by have:=p3.2;omega) p4.1 (by have:=p4.2;omega) W
 have E0:=hide e0;have E1:=hide e1;have E2:=hide e2;have E3:=hide e3;have E4:=hide e4;have E5:=hide e5;clear e0 e1 e2 e3 e4 e5 p0 p1 p2 p3 p4
 have k0:∀p:Regrown,(grow (redrawn ((w.alloc (.cells #[.int .u64 a0,.int .u64 a1,.int .u64 a2,.int .u64 a3,.int .u64 a4] 28)).alloc (.cells #[.int .u64 0,.int .u64 0,.int .u64 0,.int .u64 0,.int .u64 0] 28)) p.d) p.os).cell? ⟨w.heap.size,0,none⟩=some (.int .u64 a0):=fun p=>cell_regrown (by simp[go_sem]) p.d p.os;have k1:∀p:Regrown,(grow (redrawn ((w.alloc (.cells #[.int .u64 a0,.int .u64 a1,.int .u64 a2,.int .u64 a3,.int .u64 a4] 28)).alloc (.cells #[.int .u64 0,.int .u64 0,.int .u64 0,.int .u64 0,.int .u64 0] 28)) p.d) p.os).cell? ⟨w.heap.size,1,none⟩=some (.int .u64 a1):=fun p=>cell_regrown (by simp[go_sem]) p.d p.os;have k2:∀p:Regrown,(grow (redrawn ((w.alloc (.cells #[.int .u64 a0,.int .u64 a1,.int .u64 a2,.int .u64 a3,.int .u64 a4] 28)).alloc (.cells #[.int .u64 0,.int .u64 0,.int .u64 0,.int .u64 0,.int .u64 0] 28)) p.d) p.os).cell? ⟨w.heap.size,2,none⟩=some (.int .u64 a2):=fun p=>cell_regrown (by simp[go_sem]) p.d p.os;have k3:∀p:Regrown,(grow (redrawn ((w.alloc (.cells #[.int .u64 a0,.int .u64 a1,.int .u64 a2,.int .u64 a3,.int .u64 a4] 28)).alloc (.cells #[.int .u64 0,.int .u64 0,.int .u64 0,.int .u64 0,.int .u64 0] 28)) p.d) p.os).cell? ⟨w.heap.size,3,none⟩=some (.int .u64 a3):=fun p=>cell_regrown (by simp[go_sem]) p.d p.os;have k4:∀p:Regrown,(grow (redrawn ((w.alloc (.cells #[.int .u64 a0,.int .u64 a1,.int .u64 a2,.int .u64 a3,.int .u64 a4] 28)).alloc (.cells #[.int .u64 0,.int .u64 0,.int .u64 0,.int .u64 0,.int .u64 0] 28)) p.d) p.os).cell? ⟨w.heap.size,4,none⟩=some (.int .u64 a4):=fun p=>cell_regrown (by simp[go_sem]) p.d p.os
 have uc:∀W,(Below ((w.alloc (.cells #[.int .u64 a0,.int .u64 a1,.int .u64 a2,.int .u64 a3,.int .u64 a4] 28)).alloc (.cells #[.int .u64 0,.int .u64 0,.int .u64 0,.int .u64 0,.int .u64 0] 28)).heap.size ((w.alloc (.cells #[.int .u64 a0,.int .u64 a1,.int .u64 a2,.int .u64 a3,.int .u64 a4] 28)).alloc (.cells #[.int .u64 0,.int .u64 0,.int .u64 0,.int .u64 0,.int .u64 0] 28)) W)→W.heap[w.heap.size+1]? =some (.cells #[.int .u64 0,.int .u64 0,.int .u64 0,.int .u64 0,.int .u64 0] 28 (0,0)):=fun W hW=>(hW.block _ (by simp)).trans (hp2_1 w _ _)
 go_enter Tryd.func92,Tryd.ntmps92
 go_wp2
 refine wp_region_tail (C:=fun w'=>∃p:Regrown,w'=grow (redrawn ((w.alloc (.cells #[.int .u64 a0,.int .u64 a1,.int .u64 a2,.int .u64 a3,.int .u64 a4] 28)).alloc (.cells #[.int .u64 0,.int .u64 0,.int .u64 0,.int .u64 0,.int .u64 0] 28)) p.d) p.os) 26 _ rfl rfl rfl (by kernel_rfl) (by kernel_rfl) (by kernel_rfl) (by kernel_rfl) ⟨⟨((w.alloc (.cells #[.int .u64 a0,.int .u64 a1,.int .u64 a2,.int .u64 a3,.int .u64 a4] 28)).alloc (.cells #[.int .u64 0,.int .u64 0,.int .u64 0,.int .u64 0,.int .u64 0] 28)).drawn+1,#[]⟩,by rw[grow_empty];rfl⟩ ?_
 dsimp only[List.set,idle];go_big_quiet_step (fail);go_big_quiet_step (fail);go_big_quiet_step (fail);go_big_quiet_step (fail);go_big_quiet_step (exact Calls.regrown_of (E0.out _));go_big_quiet_step (fail);go_big_quiet_step (fail);go_big_quiet_step (fail);go_big_quiet_step (fail);go_big_quiet_step (exact Calls.regrown_of (E1.out _));go_big_quiet_step (fail);go_big_quiet_step (fail);go_big_quiet_step (fail);go_big_quiet_step (fail);go_big_quiet_step (exact Calls.regrown_of (E2.out _));go_big_quiet_step (fail);go_big_quiet_step (fail);go_big_quiet_step (fail);go_big_quiet_step (fail);go_big_quiet_step (exact Calls.regrown_of (E3.out _));go_big_quiet_step (fail);go_big_quiet_step (fail);go_big_quiet_step (fail);go_big_quiet_step (fail);go_big_quiet_step (exact Calls.regrown_of (E4.out _));go_big_quiet_step (exact Calls.regrown_of (E5.out _));refine wpQuiet_idle rfl rfl rfl ?_;rintro _ ⟨p,rfl⟩;have hB:=below_regrown ((w.alloc (.cells #[.int .u64 a0,.int .u64 a1,.int .u64 a2,.int .u64 a3,.int .u64 a4] 28)).alloc (.cells #[.int .u64 0,.int .u64 0,.int .u64 0,.int .u64 0,.int .u64 0] 28)) p.d p.os;clear k0 k1 k2 k3 k4
 generalize grow (redrawn ((w.alloc (.cells #[.int .u64 a0,.int .u64 a1,.int .u64 a2,.int .u64 a3,.int .u64 a4] 28)).alloc (.cells #[.int .u64 0,.int .u64 0,.int .u64 0,.int .u64 0,.int .u64 0] 28)) p.d) p.os=W1 at *
 have rZ:=uc W1 hB
 have hbw:Below w.heap.size w W1:=(((Below.refl _ _).alloc (Nat.le_refl _) _).alloc (by simp) _).trans (hB.mono (by simp;omega))
 clear uc hB
 go_wp2_with (first|(refine wpList_store_row rfl 28 _ _ rfl (w.heap.size+1) #[.int .u64 (jn 0 (a0*m) (a1*m) (a2*m) (a3*m) (a4*m)),.int .u64 (jn 1 (a0*m) (a1*m) (a2*m) (a3*m) (a4*m)),.int .u64 (jn 2 (a0*m) (a1*m) (a2*m) (a3*m) (a4*m)),.int .u64 (jn 3 (a0*m) (a1*m) (a2*m) (a3*m) (a4*m)),.int .u64 (jn 4 (a0*m) (a1*m) (a2*m) (a3*m) (a4*m))] rfl rfl 28 _ rZ (by kernel_rfl) rfl (by kernel_rfl) ?_)|fail)
 exact bodyPost_ret (v:=.agg #[.int .u64 (jn 0 (a0*m) (a1*m) (a2*m) (a3*m) (a4*m)),.int .u64 (jn 1 (a0*m) (a1*m) (a2*m) (a3*m) (a4*m)),.int .u64 (jn 2 (a0*m) (a1*m) (a2*m) (a3*m) (a4*m)),.int .u64 (jn 3 (a0*m) (a1*m) (a2*m) (a3*m) (a4*m)),.int .u64 (jn 4 (a0*m) (a1*m) (a2*m) (a3*m) (a4*m))]) (results_cell_row Tryd.results92 _ _ (w.heap.size+1) _ #[.int .u64 (jn 0 (a0*m) (a1*m) (a2*m) (a3*m) (a4*m)),.int .u64 (jn 1 (a0*m) (a1*m) (a2*m) (a3*m) (a4*m)),.int .u64 (jn 2 (a0*m) (a1*m) (a2*m) (a3*m) (a4*m)),.int .u64 (jn 3 (a0*m) (a1*m) (a2*m) (a3*m) (a4*m)),.int .u64 (jn 4 (a0*m) (a1*m) (a2*m) (a3*m) (a4*m))] _ _ rfl (setRow_heap _ _ _ _ _ _ rZ) Tryd.underlying28 rfl (by kernel_rfl)) rfl ⟨rfl,below_setRow hbw (by omega) _⟩
set_option maxHeartbeats 4000000 in
theorem mul_any (a0 a1 a2 a3 a4 b0 b1 b2 b3 b4:Int) (la0:0≤a0) (ua0:a0<4503599627370496) (la1:0≤a1) (ua1:a1<4503599627370496) (la2:0≤a2) (ua2:a2<4503599627370496) (la3:0≤a3) (ua3:a3<4503599627370496) (la4:0≤a4) (ua4:a4<4503599627370496) (lb0:0≤b0) (ub0:b0<4503599627370496) (lb1:0≤b1) (ub1:b1<4503599627370496) (lb2:0≤b2) (ub2:b2<4503599627370496) (lb3:0≤b3) (ub3:b3<4503599627370496) (lb4:0≤b4) (ub4:b4<4503599627370496) (w:World):
 Calls Tryd.prog 42 #[.agg #[.int .u64 a0,.int .u64 a1,.int .u64 a2,.int .u64 a3,.int .u64 a4],.agg #[.int .u64 b0,.int .u64 b1,.int .u64 b2,.int .u64 b3,.int .u64 b4]] w fun e w'=>e=.returned (.agg #[.int .u64 (jn 0 (a0*b0+(19*a1)*b4+(19*a2)*b3+(19*a3)*b2+(19*a4)*b1) (a0*b1+a1*b0+(19*a2)*b4+(19*a3)*b3+(19*a4)*b2) (a0*b2+a1*b1+a2*b0+(19*a3)*b4+(19*a4)*b3) (a0*b3+a1*b2+a2*b1+a3*b0+(19*a4)*b4) (a0*b4+a1*b3+a2*b2+a3*b1+a4*b0)),.int .u64 (jn 1 (a0*b0+(19*a1)*b4+(19*a2)*b3+(19*a3)*b2+(19*a4)*b1) (a0*b1+a1*b0+(19*a2)*b4+(19*a3)*b3+(19*a4)*b2) (a0*b2+a1*b1+a2*b0+(19*a3)*b4+(19*a4)*b3) (a0*b3+a1*b2+a2*b1+a3*b0+(19*a4)*b4) (a0*b4+a1*b3+a2*b2+a3*b1+a4*b0)),.int .u64 (jn 2 (a0*b0+(19*a1)*b4+(19*a2)*b3+(19*a3)*b2+(19*a4)*b1) (a0*b1+a1*b0+(19*a2)*b4+(19*a3)*b3+(19*a4)*b2) (a0*b2+a1*b1+a2*b0+(19*a3)*b4+(19*a4)*b3) (a0*b3+a1*b2+a2*b1+a3*b0+(19*a4)*b4) (a0*b4+a1*b3+a2*b2+a3*b1+a4*b0)),.int .u64 (jn 3 (a0*b0+(19*a1)*b4+(19*a2)*b3+(19*a3)*b2+(19*a4)*b1) (a0*b1+a1*b0+(19*a2)*b4+(19*a3)*b3+(19*a4)*b2) (a0*b2+a1*b1+a2*b0+(19*a3)*b4+(19*a4)*b3) (a0*b3+a1*b2+a2*b1+a3*b0+(19*a4)*b4) (a0*b4+a1*b3+a2*b2+a3*b1+a4*b0)),.int .u64 (jn 4 (a0*b0+(19*a1)*b4+(19*a2)*b3+(19*a3)*b2+(19*a4)*b1) (a0*b1+a1*b0+(19*a2)*b4+(19*a3)*b3+(19*a4)*b2) (a0*b2+a1*b1+a2*b0+(19*a3)*b4+(19*a4)*b3) (a0*b3+a1*b2+a2*b1+a3*b0+(19*a4)*b4) (a0*b4+a1*b3+a2*b2+a3*b1+a4*b0))])∧Below w.heap.size w w':=by
 have p00:=mul_bd a0 b0 4503599627370495 4503599627370495 (by omega) (by omega) (by omega) (by omega)
 have p01:=mul_bd (19*a1) b4 85568392920039405 4503599627370495 (by omega) (by omega) (by omega) (by omega)
 have p02:=mul_bd (19*a2) b3 85568392920039405 4503599627370495 (by omega) (by omega) (by omega) (by omega)
 have p03:=mul_bd (19*a3) b2 85568392920039405 4503599627370495 (by omega) (by omega) (by omega) (by omega)
 have p04:=mul_bd (19*a4) b1 85568392920039405 4503599627370495 (by omega) (by omega) (by omega) (by omega)
 have p10:=mul_bd a0 b1 4503599627370495 4503599627370495 (by omega) (by omega) (by omega) (by omega)
 have p11:=mul_bd a1 b0 4503599627370495 4503599627370495 (by omega) (by omega) (by omega) (by omega)
 have p12:=mul_bd (19*a2) b4 85568392920039405 4503599627370495 (by omega) (by omega) (by omega) (by omega)
 have p13:=mul_bd (19*a3) b3 85568392920039405 4503599627370495 (by omega) (by omega) (by omega) (by omega)
 have p14:=mul_bd (19*a4) b2 85568392920039405 4503599627370495 (by omega) (by omega) (by omega) (by omega)
 have p20:=mul_bd a0 b2 4503599627370495 4503599627370495 (by omega) (by omega) (by omega) (by omega)
 have p21:=mul_bd a1 b1 4503599627370495 4503599627370495 (by omega) (by omega) (by omega) (by omega)
 have p22:=mul_bd a2 b0 4503599627370495 4503599627370495 (by omega) (by omega) (by omega) (by omega)
 have p23:=mul_bd (19*a3) b4 85568392920039405 4503599627370495 (by omega) (by omega) (by omega) (by omega)
 have p24:=mul_bd (19*a4) b3 85568392920039405 4503599627370495 (by omega) (by omega) (by omega) (by omega)
 have p30:=mul_bd a0 b3 4503599627370495 4503599627370495 (by omega) (by omega) (by omega) (by omega)
 have p31:=mul_bd a1 b2 4503599627370495 4503599627370495 (by omega) (by omega) (by omega) (by omega)
 have p32:=mul_bd a2 b1 4503599627370495 4503599627370495 (by omega) (by omega) (by omega) (by omega)
 have p33:=mul_bd a3 b0 4503599627370495 4503599627370495 (by omega) (by omega) (by omega) (by omega)
 have p34:=mul_bd (19*a4) b4 85568392920039405 4503599627370495 (by omega) (by omega) (by omega) (by omega)
 have p40:=mul_bd a0 b4 4503599627370495 4503599627370495 (by omega) (by omega) (by omega) (by omega)
 have p41:=mul_bd a1 b3 4503599627370495 4503599627370495 (by omega) (by omega) (by omega) (by omega)
 have p42:=mul_bd a2 b2 4503599627370495 4503599627370495 (by omega) (by omega) (by omega) (by omega)
 have p43:=mul_bd a3 b1 4503599627370495 4503599627370495 (by omega) (by omega) (by omega) (by omega)
 have p44:=mul_bd a4 b0 4503599627370495 4503599627370495 (by omega) (by omega) (by omega) (by omega)
 have e00:=fun W=>product_any a0 b0 (by omega) (by omega) (by omega) (by omega) W
 have e01:=fun W=>plus_any (a0*b0) (19*a1) b4 (by omega) (by omega) (by omega) (by omega) (by omega) (by omega) W
 have e02:=fun W=>plus_any (a0*b0+(19*a1)*b4) (19*a2) b3 (by omega) (by omega) (by omega) (by omega) (by omega) (by omega) W
 have e03:=fun W=>plus_any (a0*b0+(19*a1)*b4+(19*a2)*b3) (19*a3) b2 (by omega) (by omega) (by omega) (by omega) (by omega) (by omega) W
 have e04:=fun W=>plus_any (a0*b0+(19*a1)*b4+(19*a2)*b3+(19*a3)*b2) (19*a4) b1 (by omega) (by omega) (by omega) (by omega) (by omega) (by omega) W
 have e10:=fun W=>product_any a0 b1 (by omega) (by omega) (by omega) (by omega) W
 have e11:=fun W=>plus_any (a0*b1) a1 b0 (by omega) (by omega) (by omega) (by omega) (by omega) (by omega) W
 have e12:=fun W=>plus_any (a0*b1+a1*b0) (19*a2) b4 (by omega) (by omega) (by omega) (by omega) (by omega) (by omega) W
 have e13:=fun W=>plus_any (a0*b1+a1*b0+(19*a2)*b4) (19*a3) b3 (by omega) (by omega) (by omega) (by omega) (by omega) (by omega) W
 have e14:=fun W=>plus_any (a0*b1+a1*b0+(19*a2)*b4+(19*a3)*b3) (19*a4) b2 (by omega) (by omega) (by omega) (by omega) (by omega) (by omega) W
 have e20:=fun W=>product_any a0 b2 (by omega) (by omega) (by omega) (by omega) W
 have e21:=fun W=>plus_any (a0*b2) a1 b1 (by omega) (by omega) (by omega) (by omega) (by omega) (by omega) W
 have e22:=fun W=>plus_any (a0*b2+a1*b1) a2 b0 (by omega) (by omega) (by omega) (by omega) (by omega) (by omega) W
 have e23:=fun W=>plus_any (a0*b2+a1*b1+a2*b0) (19*a3) b4 (by omega) (by omega) (by omega) (by omega) (by omega) (by omega) W
 have e24:=fun W=>plus_any (a0*b2+a1*b1+a2*b0+(19*a3)*b4) (19*a4) b3 (by omega) (by omega) (by omega) (by omega) (by omega) (by omega) W
 have e30:=fun W=>product_any a0 b3 (by omega) (by omega) (by omega) (by omega) W
 have e31:=fun W=>plus_any (a0*b3) a1 b2 (by omega) (by omega) (by omega) (by omega) (by omega) (by omega) W
 have e32:=fun W=>plus_any (a0*b3+a1*b2) a2 b1 (by omega) (by omega) (by omega) (by omega) (by omega) (by omega) W
 have e33:=fun W=>plus_any (a0*b3+a1*b2+a2*b1) a3 b0 (by omega) (by omega) (by omega) (by omega) (by omega) (by omega) W
 have e34:=fun W=>plus_any (a0*b3+a1*b2+a2*b1+a3*b0) (19*a4) b4 (by omega) (by omega) (by omega) (by omega) (by omega) (by omega) W
 have e40:=fun W=>product_any a0 b4 (by omega) (by omega) (by omega) (by omega) W
 have e41:=fun W=>plus_any (a0*b4) a1 b3 (by omega) (by omega) (by omega) (by omega) (by omega) (by omega) W
 have e42:=fun W=>plus_any (a0*b4+a1*b3) a2 b2 (by omega) (by omega) (by omega) (by omega) (by omega) (by omega) W
 have e43:=fun W=>plus_any (a0*b4+a1*b3+a2*b2) a3 b1 (by omega) (by omega) (by omega) (by omega) (by omega) (by omega) W
 have e44:=fun W=>plus_any (a0*b4+a1*b3+a2*b2+a3*b1) a4 b0 (by omega) (by omega) (by omega) (by omega) (by omega) (by omega) W
 have ej:=fun W=>joined_any (a0*b0+(19*a1)*b4+(19*a2)*b3+(19*a3)*b2+(19*a4)*b1) (a0*b1+a1*b0+(19*a2)*b4+(19*a3)*b3+(19*a4)*b2) (a0*b2+a1*b1+a2*b0+(19*a3)*b4+(19*a4)*b3) (a0*b3+a1*b2+a2*b1+a3*b0+(19*a4)*b4) (a0*b4+a1*b3+a2*b2+a3*b1+a4*b0) (by omega) (by omega) (by omega) (by omega) (by omega) (by omega) (by omega) (by omega) (by omega) (by omega) W
 have E00:=hide e00;have E01:=hide e01;have E02:=hide e02;have E03:=hide e03;have E04:=hide e04;have E10:=hide e10;have E11:=hide e11;have E12:=hide e12;have E13:=hide e13;have E14:=hide e14;have E20:=hide e20;have E21:=hide e21;have E22:=hide e22;have E23:=hide e23;have E24:=hide e24;have E30:=hide e30;have E31:=hide e31;have E32:=hide e32;have E33:=hide e33;have E34:=hide e34;have E40:=hide e40;have E41:=hide e41;have E42:=hide e42;have E43:=hide e43;have E44:=hide e44;have Ej:=hide ej;clear e00 e01 e02 e03 e04 e10 e11 e12 e13 e14 e20 e21 e22 e23 e24 e30 e31 e32 e33 e34 e40 e41 e42 e43 e44 ej p00 p01 p02 p03 p04 p10 p11 p12 p13 p14 p20 p21 p22 p23 p24 p30 p31 p32 p33 p34 p40 p41 p42 p43 p44
 go_enter Tryd.func42,Tryd.ntmps42
 go_wp2
 go_quiet (fail)
 go_wp2_with fail
 go_quiet (fail)
 go_wp2_with fail
 refine(lift_calls (Below.refl _ _) (E00.out _)).mono ?_;rintro e X0 ⟨rfl,h0⟩
 go_wp2_with fail
 refine(lift_calls h0 (E01.out _)).mono ?_;rintro e X1 ⟨rfl,h1⟩;clear h0
 go_wp2_with fail
 refine(lift_calls h1 (E02.out _)).mono ?_;rintro e X2 ⟨rfl,h2⟩;clear h1
 go_wp2_with fail
 refine(lift_calls h2 (E03.out _)).mono ?_;rintro e X3 ⟨rfl,h3⟩;clear h2
 go_wp2_with fail
 refine(lift_calls h3 (E04.out _)).mono ?_;rintro e X4 ⟨rfl,h4⟩;clear h3
 go_wp2_with fail
 refine(lift_calls h4 (E10.out _)).mono ?_;rintro e X5 ⟨rfl,h5⟩;clear h4
 go_wp2_with fail
 refine(lift_calls h5 (E11.out _)).mono ?_;rintro e X6 ⟨rfl,h6⟩;clear h5
 go_wp2_with fail
 refine(lift_calls h6 (E12.out _)).mono ?_;rintro e X7 ⟨rfl,h7⟩;clear h6
 go_wp2_with fail
 refine(lift_calls h7 (E13.out _)).mono ?_;rintro e X8 ⟨rfl,h8⟩;clear h7
 go_wp2_with fail
 refine(lift_calls h8 (E14.out _)).mono ?_;rintro e X9 ⟨rfl,h9⟩;clear h8
 go_wp2_with fail
 refine(lift_calls h9 (E20.out _)).mono ?_;rintro e X10 ⟨rfl,h10⟩;clear h9
 go_wp2_with fail
 refine(lift_calls h10 (E21.out _)).mono ?_;rintro e X11 ⟨rfl,h11⟩;clear h10
 go_wp2_with fail
 refine(lift_calls h11 (E22.out _)).mono ?_;rintro e X12 ⟨rfl,h12⟩;clear h11
 go_wp2_with fail
 refine(lift_calls h12 (E23.out _)).mono ?_;rintro e X13 ⟨rfl,h13⟩;clear h12
 go_wp2_with fail
 refine(lift_calls h13 (E24.out _)).mono ?_;rintro e X14 ⟨rfl,h14⟩;clear h13
 go_wp2_with fail
 refine(lift_calls h14 (E30.out _)).mono ?_;rintro e X15 ⟨rfl,h15⟩;clear h14
 go_wp2_with fail
 refine(lift_calls h15 (E31.out _)).mono ?_;rintro e X16 ⟨rfl,h16⟩;clear h15
 go_wp2_with fail
 refine(lift_calls h16 (E32.out _)).mono ?_;rintro e X17 ⟨rfl,h17⟩;clear h16
 go_wp2_with fail
 refine(lift_calls h17 (E33.out _)).mono ?_;rintro e X18 ⟨rfl,h18⟩;clear h17
 go_wp2_with fail
 refine(lift_calls h18 (E34.out _)).mono ?_;rintro e X19 ⟨rfl,h19⟩;clear h18
 go_wp2_with fail
 refine(lift_calls h19 (E40.out _)).mono ?_;rintro e X20 ⟨rfl,h20⟩;clear h19
 go_wp2_with fail
 refine(lift_calls h20 (E41.out _)).mono ?_;rintro e X21 ⟨rfl,h21⟩;clear h20
 go_wp2_with fail
 refine(lift_calls h21 (E42.out _)).mono ?_;rintro e X22 ⟨rfl,h22⟩;clear h21
 go_wp2_with fail
 refine(lift_calls h22 (E43.out _)).mono ?_;rintro e X23 ⟨rfl,h23⟩;clear h22
 go_wp2_with fail
 refine(lift_calls h23 (E44.out _)).mono ?_;rintro e X24 ⟨rfl,h24⟩;clear h23
 go_wp2_with fail
 refine(lift_calls h24 (Ej.out _)).mono ?_;rintro e X25 ⟨rfl,h25⟩;clear h24;have hs:=h25.size;rw[World.heap_drewN] at hs
 have rZ:X25.heap[w.heap.size+1+1]? =some (.cells #[.int .u64 0,.int .u64 0,.int .u64 0,.int .u64 0,.int .u64 0] 28 (0,0)):=(h25.block _ (by simp)).trans (by rw[World.heap_drewN,hp3_2])
 have hbw:Below w.heap.size w X25:=(below_drN ((((Below.refl _ _).alloc (Nat.le_refl _) _).alloc (by simp) _).alloc (by simp;omega) _) _).trans (h25.mono (by simp;omega))
 clear h25 hs
 go_wp2_with (first|(refine wpList_store_row rfl 28 _ _ rfl (w.heap.size+1+1) #[.int .u64 (jn 0 (a0*b0+(19*a1)*b4+(19*a2)*b3+(19*a3)*b2+(19*a4)*b1) (a0*b1+a1*b0+(19*a2)*b4+(19*a3)*b3+(19*a4)*b2) (a0*b2+a1*b1+a2*b0+(19*a3)*b4+(19*a4)*b3) (a0*b3+a1*b2+a2*b1+a3*b0+(19*a4)*b4) (a0*b4+a1*b3+a2*b2+a3*b1+a4*b0)),.int .u64 (jn 1 (a0*b0+(19*a1)*b4+(19*a2)*b3+(19*a3)*b2+(19*a4)*b1) (a0*b1+a1*b0+(19*a2)*b4+(19*a3)*b3+(19*a4)*b2) (a0*b2+a1*b1+a2*b0+(19*a3)*b4+(19*a4)*b3) (a0*b3+a1*b2+a2*b1+a3*b0+(19*a4)*b4) (a0*b4+a1*b3+a2*b2+a3*b1+a4*b0)),.int .u64 (jn 2 (a0*b0+(19*a1)*b4+(19*a2)*b3+(19*a3)*b2+(19*a4)*b1) (a0*b1+a1*b0+(19*a2)*b4+(19*a3)*b3+(19*a4)*b2) (a0*b2+a1*b1+a2*b0+(19*a3)*b4+(19*a4)*b3) (a0*b3+a1*b2+a2*b1+a3*b0+(19*a4)*b4) (a0*b4+a1*b3+a2*b2+a3*b1+a4*b0)),.int .u64 (jn 3 (a0*b0+(19*a1)*b4+(19*a2)*b3+(19*a3)*b2+(19*a4)*b1) (a0*b1+a1*b0+(19*a2)*b4+(19*a3)*b3+(19*a4)*b2) (a0*b2+a1*b1+a2*b0+(19*a3)*b4+(19*a4)*b3) (a0*b3+a1*b2+a2*b1+a3*b0+(19*a4)*b4) (a0*b4+a1*b3+a2*b2+a3*b1+a4*b0)),.int .u64 (jn 4 (a0*b0+(19*a1)*b4+(19*a2)*b3+(19*a3)*b2+(19*a4)*b1) (a0*b1+a1*b0+(19*a2)*b4+(19*a3)*b3+(19*a4)*b2) (a0*b2+a1*b1+a2*b0+(19*a3)*b4+(19*a4)*b3) (a0*b3+a1*b2+a2*b1+a3*b0+(19*a4)*b4) (a0*b4+a1*b3+a2*b2+a3*b1+a4*b0))] rfl rfl 28 _ rZ (by kernel_rfl) rfl (by kernel_rfl) ?_)|fail)
 exact bodyPost_ret (v:=.agg #[.int .u64 (jn 0 (a0*b0+(19*a1)*b4+(19*a2)*b3+(19*a3)*b2+(19*a4)*b1) (a0*b1+a1*b0+(19*a2)*b4+(19*a3)*b3+(19*a4)*b2) (a0*b2+a1*b1+a2*b0+(19*a3)*b4+(19*a4)*b3) (a0*b3+a1*b2+a2*b1+a3*b0+(19*a4)*b4) (a0*b4+a1*b3+a2*b2+a3*b1+a4*b0)),.int .u64 (jn 1 (a0*b0+(19*a1)*b4+(19*a2)*b3+(19*a3)*b2+(19*a4)*b1) (a0*b1+a1*b0+(19*a2)*b4+(19*a3)*b3+(19*a4)*b2) (a0*b2+a1*b1+a2*b0+(19*a3)*b4+(19*a4)*b3) (a0*b3+a1*b2+a2*b1+a3*b0+(19*a4)*b4) (a0*b4+a1*b3+a2*b2+a3*b1+a4*b0)),.int .u64 (jn 2 (a0*b0+(19*a1)*b4+(19*a2)*b3+(19*a3)*b2+(19*a4)*b1) (a0*b1+a1*b0+(19*a2)*b4+(19*a3)*b3+(19*a4)*b2) (a0*b2+a1*b1+a2*b0+(19*a3)*b4+(19*a4)*b3) (a0*b3+a1*b2+a2*b1+a3*b0+(19*a4)*b4) (a0*b4+a1*b3+a2*b2+a3*b1+a4*b0)),.int .u64 (jn 3 (a0*b0+(19*a1)*b4+(19*a2)*b3+(19*a3)*b2+(19*a4)*b1) (a0*b1+a1*b0+(19*a2)*b4+(19*a3)*b3+(19*a4)*b2) (a0*b2+a1*b1+a2*b0+(19*a3)*b4+(19*a4)*b3) (a0*b3+a1*b2+a2*b1+a3*b0+(19*a4)*b4) (a0*b4+a1*b3+a2*b2+a3*b1+a4*b0)),.int .u64 (jn 4 (a0*b0+(19*a1)*b4+(19*a2)*b3+(19*a3)*b2+(19*a4)*b1) (a0*b1+a1*b0+(19*a2)*b4+(19*a3)*b3+(19*a4)*b2) (a0*b2+a1*b1+a2*b0+(19*a3)*b4+(19*a4)*b3) (a0*b3+a1*b2+a2*b1+a3*b0+(19*a4)*b4) (a0*b4+a1*b3+a2*b2+a3*b1+a4*b0))]) (results_cell_row Tryd.results42 _ _ (w.heap.size+1+1) _ #[.int .u64 (jn 0 (a0*b0+(19*a1)*b4+(19*a2)*b3+(19*a3)*b2+(19*a4)*b1) (a0*b1+a1*b0+(19*a2)*b4+(19*a3)*b3+(19*a4)*b2) (a0*b2+a1*b1+a2*b0+(19*a3)*b4+(19*a4)*b3) (a0*b3+a1*b2+a2*b1+a3*b0+(19*a4)*b4) (a0*b4+a1*b3+a2*b2+a3*b1+a4*b0)),.int .u64 (jn 1 (a0*b0+(19*a1)*b4+(19*a2)*b3+(19*a3)*b2+(19*a4)*b1) (a0*b1+a1*b0+(19*a2)*b4+(19*a3)*b3+(19*a4)*b2) (a0*b2+a1*b1+a2*b0+(19*a3)*b4+(19*a4)*b3) (a0*b3+a1*b2+a2*b1+a3*b0+(19*a4)*b4) (a0*b4+a1*b3+a2*b2+a3*b1+a4*b0)),.int .u64 (jn 2 (a0*b0+(19*a1)*b4+(19*a2)*b3+(19*a3)*b2+(19*a4)*b1) (a0*b1+a1*b0+(19*a2)*b4+(19*a3)*b3+(19*a4)*b2) (a0*b2+a1*b1+a2*b0+(19*a3)*b4+(19*a4)*b3) (a0*b3+a1*b2+a2*b1+a3*b0+(19*a4)*b4) (a0*b4+a1*b3+a2*b2+a3*b1+a4*b0)),.int .u64 (jn 3 (a0*b0+(19*a1)*b4+(19*a2)*b3+(19*a3)*b2+(19*a4)*b1) (a0*b1+a1*b0+(19*a2)*b4+(19*a3)*b3+(19*a4)*b2) (a0*b2+a1*b1+a2*b0+(19*a3)*b4+(19*a4)*b3) (a0*b3+a1*b2+a2*b1+a3*b0+(19*a4)*b4) (a0*b4+a1*b3+a2*b2+a3*b1+a4*b0)),.int .u64 (jn 4 (a0*b0+(19*a1)*b4+(19*a2)*b3+(19*a3)*b2+(19*a4)*b1) (a0*b1+a1*b0+(19*a2)*b4+(19*a3)*b3+(19*a4)*b2) (a0*b2+a1*b1+a2*b0+(19*a3)*b4+(19*a4)*b3) (a0*b3+a1*b2+a2*b1+a3*b0+(19*a4)*b4) (a0*b4+a1*b3+a2*b2+a3*b1+a4*b0))] _ _ rfl (setRow_heap _ _ _ _ _ _ rZ) Tryd.underlying28 rfl (by kernel_rfl)) rfl ⟨rfl,below_setRow hbw (by omega) _⟩
set_option maxHeartbeats 4000000 in
theorem square_any (a0 a1 a2 a3 a4:Int) (la0:0≤a0) (ua0:a0<4503599627370496) (la1:0≤a1) (ua1:a1<4503599627370496) (la2:0≤a2) (ua2:a2<4503599627370496) (la3:0≤a3) (ua3:a3<4503599627370496) (la4:0≤a4) (ua4:a4<4503599627370496) (w:World):
 Calls Tryd.prog 91 #[.agg #[.int .u64 a0,.int .u64 a1,.int .u64 a2,.int .u64 a3,.int .u64 a4]] w fun e w'=>e=.returned (.agg #[.int .u64 (jn 0 (a0*a0+(2*a1)*(19*a4)+(2*a2)*(19*a3)) ((2*a0)*a1+(2*a2)*(19*a4)+a3*(19*a3)) ((2*a0)*a2+a1*a1+(2*a3)*(19*a4)) ((2*a0)*a3+(2*a1)*a2+a4*(19*a4)) ((2*a0)*a4+(2*a1)*a3+a2*a2)),.int .u64 (jn 1 (a0*a0+(2*a1)*(19*a4)+(2*a2)*(19*a3)) ((2*a0)*a1+(2*a2)*(19*a4)+a3*(19*a3)) ((2*a0)*a2+a1*a1+(2*a3)*(19*a4)) ((2*a0)*a3+(2*a1)*a2+a4*(19*a4)) ((2*a0)*a4+(2*a1)*a3+a2*a2)),.int .u64 (jn 2 (a0*a0+(2*a1)*(19*a4)+(2*a2)*(19*a3)) ((2*a0)*a1+(2*a2)*(19*a4)+a3*(19*a3)) ((2*a0)*a2+a1*a1+(2*a3)*(19*a4)) ((2*a0)*a3+(2*a1)*a2+a4*(19*a4)) ((2*a0)*a4+(2*a1)*a3+a2*a2)),.int .u64 (jn 3 (a0*a0+(2*a1)*(19*a4)+(2*a2)*(19*a3)) ((2*a0)*a1+(2*a2)*(19*a4)+a3*(19*a3)) ((2*a0)*a2+a1*a1+(2*a3)*(19*a4)) ((2*a0)*a3+(2*a1)*a2+a4*(19*a4)) ((2*a0)*a4+(2*a1)*a3+a2*a2)),.int .u64 (jn 4 (a0*a0+(2*a1)*(19*a4)+(2*a2)*(19*a3)) ((2*a0)*a1+(2*a2)*(19*a4)+a3*(19*a3)) ((2*a0)*a2+a1*a1+(2*a3)*(19*a4)) ((2*a0)*a3+(2*a1)*a2+a4*(19*a4)) ((2*a0)*a4+(2*a1)*a3+a2*a2))])∧Below w.heap.size w w':=by
 have p00:=mul_bd a0 a0 4503599627370495 4503599627370495 (by omega) (by omega) (by omega) (by omega)
 have p01:=mul_bd (2*a1) (19*a4) 9007199254740990 85568392920039405 (by omega) (by omega) (by omega) (by omega)
 have p02:=mul_bd (2*a2) (19*a3) 9007199254740990 85568392920039405 (by omega) (by omega) (by omega) (by omega)
 have p10:=mul_bd (2*a0) a1 9007199254740990 4503599627370495 (by omega) (by omega) (by omega) (by omega)
 have p11:=mul_bd (2*a2) (19*a4) 9007199254740990 85568392920039405 (by omega) (by omega) (by omega) (by omega)
 have p12:=mul_bd a3 (19*a3) 4503599627370495 85568392920039405 (by omega) (by omega) (by omega) (by omega)
 have p20:=mul_bd (2*a0) a2 9007199254740990 4503599627370495 (by omega) (by omega) (by omega) (by omega)
 have p21:=mul_bd a1 a1 4503599627370495 4503599627370495 (by omega) (by omega) (by omega) (by omega)
 have p22:=mul_bd (2*a3) (19*a4) 9007199254740990 85568392920039405 (by omega) (by omega) (by omega) (by omega)
 have p30:=mul_bd (2*a0) a3 9007199254740990 4503599627370495 (by omega) (by omega) (by omega) (by omega)
 have p31:=mul_bd (2*a1) a2 9007199254740990 4503599627370495 (by omega) (by omega) (by omega) (by omega)
 have p32:=mul_bd a4 (19*a4) 4503599627370495 85568392920039405 (by omega) (by omega) (by omega) (by omega)
 have p40:=mul_bd (2*a0) a4 9007199254740990 4503599627370495 (by omega) (by omega) (by omega) (by omega)
 have p41:=mul_bd (2*a1) a3 9007199254740990 4503599627370495 (by omega) (by omega) (by omega) (by omega)
 have p42:=mul_bd a2 a2 4503599627370495 4503599627370495 (by omega) (by omega) (by omega) (by omega)
 have e00:=fun W=>product_any a0 a0 (by omega) (by omega) (by omega) (by omega) W
 have e01:=fun W=>plus_any (a0*a0) (2*a1) (19*a4) (by omega) (by omega) (by omega) (by omega) (by omega) (by omega) W
 have e02:=fun W=>plus_any (a0*a0+(2*a1)*(19*a4)) (2*a2) (19*a3) (by omega) (by omega) (by omega) (by omega) (by omega) (by omega) W
 have e10:=fun W=>product_any (2*a0) a1 (by omega) (by omega) (by omega) (by omega) W
 have e11:=fun W=>plus_any ((2*a0)*a1) (2*a2) (19*a4) (by omega) (by omega) (by omega) (by omega) (by omega) (by omega) W
 have e12:=fun W=>plus_any ((2*a0)*a1+(2*a2)*(19*a4)) a3 (19*a3) (by omega) (by omega) (by omega) (by omega) (by omega) (by omega) W
 have e20:=fun W=>product_any (2*a0) a2 (by omega) (by omega) (by omega) (by omega) W
 have e21:=fun W=>plus_any ((2*a0)*a2) a1 a1 (by omega) (by omega) (by omega) (by omega) (by omega) (by omega) W
 have e22:=fun W=>plus_any ((2*a0)*a2+a1*a1) (2*a3) (19*a4) (by omega) (by omega) (by omega) (by omega) (by omega) (by omega) W
 have e30:=fun W=>product_any (2*a0) a3 (by omega) (by omega) (by omega) (by omega) W
 have e31:=fun W=>plus_any ((2*a0)*a3) (2*a1) a2 (by omega) (by omega) (by omega) (by omega) (by omega) (by omega) W
 have e32:=fun W=>plus_any ((2*a0)*a3+(2*a1)*a2) a4 (19*a4) (by omega) (by omega) (by omega) (by omega) (by omega) (by omega) W
 have e40:=fun W=>product_any (2*a0) a4 (by omega) (by omega) (by omega) (by omega) W
 have e41:=fun W=>plus_any ((2*a0)*a4) (2*a1) a3 (by omega) (by omega) (by omega) (by omega) (by omega) (by omega) W
 have e42:=fun W=>plus_any ((2*a0)*a4+(2*a1)*a3) a2 a2 (by omega) (by omega) (by omega) (by omega) (by omega) (by omega) W
 have ej:=fun W=>joined_any (a0*a0+(2*a1)*(19*a4)+(2*a2)*(19*a3)) ((2*a0)*a1+(2*a2)*(19*a4)+a3*(19*a3)) ((2*a0)*a2+a1*a1+(2*a3)*(19*a4)) ((2*a0)*a3+(2*a1)*a2+a4*(19*a4)) ((2*a0)*a4+(2*a1)*a3+a2*a2) (by omega) (by omega) (by omega) (by omega) (by omega) (by omega) (by omega) (by omega) (by omega) (by omega) W
 have E00:=hide e00;have E01:=hide e01;have E02:=hide e02;have E10:=hide e10;have E11:=hide e11;have E12:=hide e12;have E20:=hide e20;have E21:=hide e21;have E22:=hide e22;have E30:=hide e30;have E31:=hide e31;have E32:=hide e32;have E40:=hide e40;have E41:=hide e41;have E42:=hide e42;have Ej:=hide ej;clear e00 e01 e02 e10 e11 e12 e20 e21 e22 e30 e31 e32 e40 e41 e42 ej p00 p01 p02 p10 p11 p12 p20 p21 p22 p30 p31 p32 p40 p41 p42
 go_enter Tryd.func91,Tryd.ntmps91
 go_wp2
 go_quiet (fail)
 go_wp2_with fail
 refine(lift_calls (Below.refl _ _) (E00.out _)).mono ?_;rintro e X0 ⟨rfl,h0⟩
 go_wp2_with fail
 refine(lift_calls h0 (E01.out _)).mono ?_;rintro e X1 ⟨rfl,h1⟩;clear h0
 go_wp2_with fail
 refine(lift_calls h1 (E02.out _)).mono ?_;rintro e X2 ⟨rfl,h2⟩;clear h1
 go_wp2_with fail
 refine(lift_calls h2 (E10.out _)).mono ?_;rintro e X3 ⟨rfl,h3⟩;clear h2
 go_wp2_with fail
 refine(lift_calls h3 (E11.out _)).mono ?_;rintro e X4 ⟨rfl,h4⟩;clear h3
 go_wp2_with fail
 refine(lift_calls h4 (E12.out _)).mono ?_;rintro e X5 ⟨rfl,h5⟩;clear h4
 go_wp2_with fail
 refine(lift_calls h5 (E20.out _)).mono ?_;rintro e X6 ⟨rfl,h6⟩;clear h5
 go_wp2_with fail
 refine(lift_calls h6 (E21.out _)).mono ?_;rintro e X7 ⟨rfl,h7⟩;clear h6
 go_wp2_with fail
 refine(lift_calls h7 (E22.out _)).mono ?_;rintro e X8 ⟨rfl,h8⟩;clear h7
 go_wp2_with fail
 refine(lift_calls h8 (E30.out _)).mono ?_;rintro e X9 ⟨rfl,h9⟩;clear h8
 go_wp2_with fail
 refine(lift_calls h9 (E31.out _)).mono ?_;rintro e X10 ⟨rfl,h10⟩;clear h9
 go_wp2_with fail
 refine(lift_calls h10 (E32.out _)).mono ?_;rintro e X11 ⟨rfl,h11⟩;clear h10
 go_wp2_with fail
 refine(lift_calls h11 (E40.out _)).mono ?_;rintro e X12 ⟨rfl,h12⟩;clear h11
 go_wp2_with fail
 refine(lift_calls h12 (E41.out _)).mono ?_;rintro e X13 ⟨rfl,h13⟩;clear h12
 go_wp2_with fail
 refine(lift_calls h13 (E42.out _)).mono ?_;rintro e X14 ⟨rfl,h14⟩;clear h13
 go_wp2_with fail
 refine(lift_calls h14 (Ej.out _)).mono ?_;rintro e X15 ⟨rfl,h15⟩;clear h14;have hs:=h15.size;rw[World.heap_drewN] at hs
 have rZ:X15.heap[w.heap.size+1]? =some (.cells #[.int .u64 0,.int .u64 0,.int .u64 0,.int .u64 0,.int .u64 0] 28 (0,0)):=(h15.block _ (by simp)).trans (by rw[World.heap_drewN,hp2_1])
 have hbw:Below w.heap.size w X15:=(below_drN (((Below.refl _ _).alloc (Nat.le_refl _) _).alloc (by simp) _) _).trans (h15.mono (by simp;omega))
 clear h15 hs
 go_wp2_with (first|(refine wpList_store_row rfl 28 _ _ rfl (w.heap.size+1) #[.int .u64 (jn 0 (a0*a0+(2*a1)*(19*a4)+(2*a2)*(19*a3)) ((2*a0)*a1+(2*a2)*(19*a4)+a3*(19*a3)) ((2*a0)*a2+a1*a1+(2*a3)*(19*a4)) ((2*a0)*a3+(2*a1)*a2+a4*(19*a4)) ((2*a0)*a4+(2*a1)*a3+a2*a2)),.int .u64 (jn 1 (a0*a0+(2*a1)*(19*a4)+(2*a2)*(19*a3)) ((2*a0)*a1+(2*a2)*(19*a4)+a3*(19*a3)) ((2*a0)*a2+a1*a1+(2*a3)*(19*a4)) ((2*a0)*a3+(2*a1)*a2+a4*(19*a4)) ((2*a0)*a4+(2*a1)*a3+a2*a2)),.int .u64 (jn 2 (a0*a0+(2*a1)*(19*a4)+(2*a2)*(19*a3)) ((2*a0)*a1+(2*a2)*(19*a4)+a3*(19*a3)) ((2*a0)*a2+a1*a1+(2*a3)*(19*a4)) ((2*a0)*a3+(2*a1)*a2+a4*(19*a4)) ((2*a0)*a4+(2*a1)*a3+a2*a2)),.int .u64 (jn 3 (a0*a0+(2*a1)*(19*a4)+(2*a2)*(19*a3)) ((2*a0)*a1+(2*a2)*(19*a4)+a3*(19*a3)) ((2*a0)*a2+a1*a1+(2*a3)*(19*a4)) ((2*a0)*a3+(2*a1)*a2+a4*(19*a4)) ((2*a0)*a4+(2*a1)*a3+a2*a2)),.int .u64 (jn 4 (a0*a0+(2*a1)*(19*a4)+(2*a2)*(19*a3)) ((2*a0)*a1+(2*a2)*(19*a4)+a3*(19*a3)) ((2*a0)*a2+a1*a1+(2*a3)*(19*a4)) ((2*a0)*a3+(2*a1)*a2+a4*(19*a4)) ((2*a0)*a4+(2*a1)*a3+a2*a2))] rfl rfl 28 _ rZ (by kernel_rfl) rfl (by kernel_rfl) ?_)|fail)
 exact bodyPost_ret (v:=.agg #[.int .u64 (jn 0 (a0*a0+(2*a1)*(19*a4)+(2*a2)*(19*a3)) ((2*a0)*a1+(2*a2)*(19*a4)+a3*(19*a3)) ((2*a0)*a2+a1*a1+(2*a3)*(19*a4)) ((2*a0)*a3+(2*a1)*a2+a4*(19*a4)) ((2*a0)*a4+(2*a1)*a3+a2*a2)),.int .u64 (jn 1 (a0*a0+(2*a1)*(19*a4)+(2*a2)*(19*a3)) ((2*a0)*a1+(2*a2)*(19*a4)+a3*(19*a3)) ((2*a0)*a2+a1*a1+(2*a3)*(19*a4)) ((2*a0)*a3+(2*a1)*a2+a4*(19*a4)) ((2*a0)*a4+(2*a1)*a3+a2*a2)),.int .u64 (jn 2 (a0*a0+(2*a1)*(19*a4)+(2*a2)*(19*a3)) ((2*a0)*a1+(2*a2)*(19*a4)+a3*(19*a3)) ((2*a0)*a2+a1*a1+(2*a3)*(19*a4)) ((2*a0)*a3+(2*a1)*a2+a4*(19*a4)) ((2*a0)*a4+(2*a1)*a3+a2*a2)),.int .u64 (jn 3 (a0*a0+(2*a1)*(19*a4)+(2*a2)*(19*a3)) ((2*a0)*a1+(2*a2)*(19*a4)+a3*(19*a3)) ((2*a0)*a2+a1*a1+(2*a3)*(19*a4)) ((2*a0)*a3+(2*a1)*a2+a4*(19*a4)) ((2*a0)*a4+(2*a1)*a3+a2*a2)),.int .u64 (jn 4 (a0*a0+(2*a1)*(19*a4)+(2*a2)*(19*a3)) ((2*a0)*a1+(2*a2)*(19*a4)+a3*(19*a3)) ((2*a0)*a2+a1*a1+(2*a3)*(19*a4)) ((2*a0)*a3+(2*a1)*a2+a4*(19*a4)) ((2*a0)*a4+(2*a1)*a3+a2*a2))]) (results_cell_row Tryd.results91 _ _ (w.heap.size+1) _ #[.int .u64 (jn 0 (a0*a0+(2*a1)*(19*a4)+(2*a2)*(19*a3)) ((2*a0)*a1+(2*a2)*(19*a4)+a3*(19*a3)) ((2*a0)*a2+a1*a1+(2*a3)*(19*a4)) ((2*a0)*a3+(2*a1)*a2+a4*(19*a4)) ((2*a0)*a4+(2*a1)*a3+a2*a2)),.int .u64 (jn 1 (a0*a0+(2*a1)*(19*a4)+(2*a2)*(19*a3)) ((2*a0)*a1+(2*a2)*(19*a4)+a3*(19*a3)) ((2*a0)*a2+a1*a1+(2*a3)*(19*a4)) ((2*a0)*a3+(2*a1)*a2+a4*(19*a4)) ((2*a0)*a4+(2*a1)*a3+a2*a2)),.int .u64 (jn 2 (a0*a0+(2*a1)*(19*a4)+(2*a2)*(19*a3)) ((2*a0)*a1+(2*a2)*(19*a4)+a3*(19*a3)) ((2*a0)*a2+a1*a1+(2*a3)*(19*a4)) ((2*a0)*a3+(2*a1)*a2+a4*(19*a4)) ((2*a0)*a4+(2*a1)*a3+a2*a2)),.int .u64 (jn 3 (a0*a0+(2*a1)*(19*a4)+(2*a2)*(19*a3)) ((2*a0)*a1+(2*a2)*(19*a4)+a3*(19*a3)) ((2*a0)*a2+a1*a1+(2*a3)*(19*a4)) ((2*a0)*a3+(2*a1)*a2+a4*(19*a4)) ((2*a0)*a4+(2*a1)*a3+a2*a2)),.int .u64 (jn 4 (a0*a0+(2*a1)*(19*a4)+(2*a2)*(19*a3)) ((2*a0)*a1+(2*a2)*(19*a4)+a3*(19*a3)) ((2*a0)*a2+a1*a1+(2*a3)*(19*a4)) ((2*a0)*a3+(2*a1)*a2+a4*(19*a4)) ((2*a0)*a4+(2*a1)*a3+a2*a2))] _ _ rfl (setRow_heap _ _ _ _ _ _ rZ) Tryd.underlying28 rfl (by kernel_rfl)) rfl ⟨rfl,below_setRow hbw (by omega) _⟩
end Go.Proofs.YtdcpcdkbhgkmlaaDoor
