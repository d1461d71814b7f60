import Derived.Test.YtdcpcdkbhgkmlaaDoorProg
import Derived.WalkKit
import Derived.WalkSpells
import Derived.WalkLawsBesides
import Derived.Lib.QuietBelow
import Derived.BigQuiet
import Derived.Test.YtdcpcdkbhgkmlaaDoorEKa
import Derived.Test.YtdcpcdkbhgkmlaaDoorEGb
import Derived.Laws.BitsAllLaws
import Derived.Test.YtdcpcdkbhgkmlaaDoorEGj
import Derived.Test.YtdcpcdkbhgkmlaaDoorEMa
import Derived.Test.YtdcpcdkbhgkmlaaDoorEGa
import Derived.ChangeSame
namespace Go.Proofs.YtdcpcdkbhgkmlaaDoor
set_option maxRecDepth 100000
open Go.RowKit Go.Sort
attribute [local go_sem] setCell_drewN alloc_drewN
theorem xor_bd (x y:Int) (h1:0≤x) (h2:x<18446744073709551616) (h3:0≤y) (h4:y<18446744073709551616):0≤bits .xor .u64 x y∧bits .xor .u64 x y<18446744073709551616:=by
 rw[u64_xor x y h1 h2 h3 h4]
 have:=Nat.xor_lt_two_pow (n:=64) (x:=x.toNat) (y:=y.toNat) (by omega) (by omega)
 omega
theorem xor_back (x y:Int) (h1:0≤x) (h2:x<18446744073709551616) (h3:0≤y) (h4:y<18446744073709551616):bits .xor .u64 x (bits .xor .u64 x y)=y:=by
 obtain⟨l,u⟩:=xor_bd x y h1 h2 h3 h4;rw[u64_xor x _ h1 h2 l u,u64_xor x y h1 h2 h3 h4,Int.toNat_natCast,←Nat.xor_assoc,Nat.xor_self,Nat.zero_xor];omega
theorem xor_back' (x y:Int) (h1:0≤x) (h2:x<18446744073709551616) (h3:0≤y) (h4:y<18446744073709551616):bits .xor .u64 y (bits .xor .u64 x y)=x:=by
 obtain⟨l,u⟩:=xor_bd x y h1 h2 h3 h4;rw[u64_xor y _ h3 h4 l u,u64_xor x y h1 h2 h3 h4,Int.toNat_natCast,Nat.xor_comm x.toNat,←Nat.xor_assoc,Nat.xor_self,Nat.zero_xor];omega
theorem xor_none (x:Int) (h1:0≤x) (h2:x<18446744073709551616):bits .xor .u64 x 0=x:=by
 rw[u64_xor x 0 h1 h2 (by decide) (by decide),Int.toNat_zero,Nat.xor_zero]
 omega
theorem and_none (x:Int) (h1:0≤x) (h2:x<18446744073709551616):bits .and .u64 x 0=0:=by
 rw[u64_and x 0 h1 h2 (by decide) (by decide),Int.toNat_zero,Nat.and_zero]
 rfl
theorem and_all (x:Int) (h1:0≤x) (h2:x<18446744073709551616):bits .and .u64 x 18446744073709551615=x:=by
 rw[u64_and x 18446744073709551615 h1 h2 (by decide) (by decide)]
 have e:(18446744073709551615:Int).toNat=2^64-1:=by decide
 rw[e,Nat.and_two_pow_sub_one_eq_mod];omega
set_option maxHeartbeats 4000000 in
theorem a_swap {r s:Array Value} {x y:Int} (h:NumOf r x) (g:NumOf s y) (on:Bool):Gives 63 #[.agg r,.agg s,.bool on] (.tuple #[.agg (if on then s else r),.agg (if on then r else s)]):=by
 have hA:=h;have hB:=g;obtain⟨a0,a1,a2,a3,a4,rfl,⟨h0,h1,h2,h3,h4⟩,ha⟩:=h;obtain⟨b0,b1,b2,b3,b4,rfl,⟨g0,g1,g2,g3,g4⟩,hb⟩:=g;intro w
 cases on
 ·have e0:bits .and .u64 (bits .xor .u64 a0 b0) 0=0:=and_none _ (xor_bd a0 b0 h0.1 (by omega) g0.1 (by omega)).1 (xor_bd a0 b0 h0.1 (by omega) g0.1 (by omega)).2
  have i0:=xor_none a0 h0.1 (by omega)
  have j0:=xor_none b0 g0.1 (by omega)
  have e1:bits .and .u64 (bits .xor .u64 a1 b1) 0=0:=and_none _ (xor_bd a1 b1 h1.1 (by omega) g1.1 (by omega)).1 (xor_bd a1 b1 h1.1 (by omega) g1.1 (by omega)).2
  have i1:=xor_none a1 h1.1 (by omega)
  have j1:=xor_none b1 g1.1 (by omega)
  have e2:bits .and .u64 (bits .xor .u64 a2 b2) 0=0:=and_none _ (xor_bd a2 b2 h2.1 (by omega) g2.1 (by omega)).1 (xor_bd a2 b2 h2.1 (by omega) g2.1 (by omega)).2
  have i2:=xor_none a2 h2.1 (by omega)
  have j2:=xor_none b2 g2.1 (by omega)
  have e3:bits .and .u64 (bits .xor .u64 a3 b3) 0=0:=and_none _ (xor_bd a3 b3 h3.1 (by omega) g3.1 (by omega)).1 (xor_bd a3 b3 h3.1 (by omega) g3.1 (by omega)).2
  have i3:=xor_none a3 h3.1 (by omega)
  have j3:=xor_none b3 g3.1 (by omega)
  have e4:bits .and .u64 (bits .xor .u64 a4 b4) 0=0:=and_none _ (xor_bd a4 b4 h4.1 (by omega) g4.1 (by omega)).1 (xor_bd a4 b4 h4.1 (by omega) g4.1 (by omega)).2
  have i4:=xor_none a4 h4.1 (by omega)
  have j4:=xor_none b4 g4.1 (by omega)
  clear h0 g0 h1 g1 h2 g2 h3 g3 h4 g4 ha hb
  go_enter Tryd.func63,Tryd.ntmps63
  go_wp2
  refine wp_loop_rounds 6 ?_;rw[rounds_succ]
  go_wp2
  go_quiet (fail)
  go_wp2
  rw[rounds_succ]
  go_wp2
  go_quiet (fail)
  go_wp2
  rw[rounds_succ]
  go_wp2
  go_quiet (fail)
  go_wp2
  rw[rounds_succ]
  go_wp2
  go_quiet (fail)
  go_wp2
  rw[rounds_succ]
  go_wp2
  go_quiet (fail)
  go_wp2
  rw[rounds_succ]
  go_wp2
  have rp0:∀k,(((((w.alloc (.cells #[.int .u64 a0,.int .u64 a1,.int .u64 a2,.int .u64 a3,.int .u64 a4] 28)).alloc (.cells #[.int .u64 b0,.int .u64 b1,.int .u64 b2,.int .u64 b3,.int .u64 b4] 28)).alloc (.cells #[.int .u64 0,.int .u64 0,.int .u64 0,.int .u64 0,.int .u64 0] 28)).alloc (.cells #[.int .u64 0,.int .u64 0,.int .u64 0,.int .u64 0,.int .u64 0] 28)).drewN k).heap[w.heap.size]? =some (.cells #[.int .u64 a0,.int .u64 a1,.int .u64 a2,.int .u64 a3,.int .u64 a4] 28 (0,0)):=fun k=>by rw[World.heap_drewN];exact hp4_0 w _ _ _ _
  have rp1:∀k,(((((w.alloc (.cells #[.int .u64 a0,.int .u64 a1,.int .u64 a2,.int .u64 a3,.int .u64 a4] 28)).alloc (.cells #[.int .u64 b0,.int .u64 b1,.int .u64 b2,.int .u64 b3,.int .u64 b4] 28)).alloc (.cells #[.int .u64 0,.int .u64 0,.int .u64 0,.int .u64 0,.int .u64 0] 28)).alloc (.cells #[.int .u64 0,.int .u64 0,.int .u64 0,.int .u64 0,.int .u64 0] 28)).drewN k).heap[w.heap.size+1]? =some (.cells #[.int .u64 b0,.int .u64 b1,.int .u64 b2,.int .u64 b3,.int .u64 b4] 28 (0,0)):=fun k=>by rw[World.heap_drewN];exact hp4_1 w _ _ _ _
  have rp2:∀k,(((((w.alloc (.cells #[.int .u64 a0,.int .u64 a1,.int .u64 a2,.int .u64 a3,.int .u64 a4] 28)).alloc (.cells #[.int .u64 b0,.int .u64 b1,.int .u64 b2,.int .u64 b3,.int .u64 b4] 28)).alloc (.cells #[.int .u64 0,.int .u64 0,.int .u64 0,.int .u64 0,.int .u64 0] 28)).alloc (.cells #[.int .u64 0,.int .u64 0,.int .u64 0,.int .u64 0,.int .u64 0] 28)).drewN k).heap[w.heap.size+1+1]? =some (.cells #[.int .u64 0,.int .u64 0,.int .u64 0,.int .u64 0,.int .u64 0] 28 (0,0)):=fun k=>by rw[World.heap_drewN];exact hp4_2 w _ _ _ _
  have rp3:∀k,(((((w.alloc (.cells #[.int .u64 a0,.int .u64 a1,.int .u64 a2,.int .u64 a3,.int .u64 a4] 28)).alloc (.cells #[.int .u64 b0,.int .u64 b1,.int .u64 b2,.int .u64 b3,.int .u64 b4] 28)).alloc (.cells #[.int .u64 0,.int .u64 0,.int .u64 0,.int .u64 0,.int .u64 0] 28)).alloc (.cells #[.int .u64 0,.int .u64 0,.int .u64 0,.int .u64 0,.int .u64 0] 28)).drewN k).heap[w.heap.size+1+1+1]? =some (.cells #[.int .u64 0,.int .u64 0,.int .u64 0,.int .u64 0,.int .u64 0] 28 (0,0)):=fun k=>by rw[World.heap_drewN];exact hp4_3 w _ _ _ _
  have hw:∀k,Below w.heap.size w (((((w.alloc (.cells #[.int .u64 a0,.int .u64 a1,.int .u64 a2,.int .u64 a3,.int .u64 a4] 28)).alloc (.cells #[.int .u64 b0,.int .u64 b1,.int .u64 b2,.int .u64 b3,.int .u64 b4] 28)).alloc (.cells #[.int .u64 0,.int .u64 0,.int .u64 0,.int .u64 0,.int .u64 0] 28)).alloc (.cells #[.int .u64 0,.int .u64 0,.int .u64 0,.int .u64 0,.int .u64 0] 28)).drewN k):=fun k=>below_drN (((((Below.refl _ _).alloc (Nat.le_refl _) _).alloc (by simp) _).alloc (by simp;omega) _).alloc (by simp;omega) _) k
  refine wp_region_pair (by kernel_rfl) (by kernel_rfl) (by kernel_rfl) (by kernel_rfl) (by kernel_rfl) (by kernel_rfl) (by kernel_rfl) (by kernel_rfl) 28 28 _ _ _ _ 43 44 rfl rfl rfl rfl rfl rfl rfl rfl rfl rfl rfl rfl (w.heap.size) (w.heap.size+1) (w.heap.size+1+1) (w.heap.size+1+1+1) #[.int .u64 a0,.int .u64 a1,.int .u64 a2,.int .u64 a3,.int .u64 a4] #[.int .u64 b0,.int .u64 b1,.int .u64 b2,.int .u64 b3,.int .u64 b4] #[.int .u64 0,.int .u64 0,.int .u64 0,.int .u64 0,.int .u64 0] #[.int .u64 0,.int .u64 0,.int .u64 0,.int .u64 0,.int .u64 0] 28 28 28 28 (0,0) (0,0) _ _ _ (rp0 _) (rp1 _) (rp2 _) (rp3 _) (by omega) (by omega) Tryd.underlying28 rfl hA.info rfl hA.one Tryd.underlying28 rfl hB.info rfl hB.one rfl rfl rfl rfl rfl rfl rfl rfl rfl rfl rfl rfl ?_
  intro w1 hb;replace rp2:=keep hb (rp2 _);replace rp3:=keep hb (rp3 _);replace hw:=Below.after (hw _) hb;clear rp0 rp1 hb
  go_wp2
  exact bodyPost_ret (v:=.tuple #[.agg #[.int .u64 a0,.int .u64 a1,.int .u64 a2,.int .u64 a3,.int .u64 a4],.agg #[.int .u64 b0,.int .u64 b1,.int .u64 b2,.int .u64 b3,.int .u64 b4]]) (results_rows2 Tryd.results63 _ _ (w.heap.size+1+1) (w.heap.size+1+1+1) _ _ #[.int .u64 a0,.int .u64 a1,.int .u64 a2,.int .u64 a3,.int .u64 a4] #[.int .u64 b0,.int .u64 b1,.int .u64 b2,.int .u64 b3,.int .u64 b4] _ _ _ _ rfl ((setRow_other _ (w.heap.size+1+1+1) (w.heap.size+1+1) _ (by omega)).trans (setRow_heap _ _ _ _ _ _ rp2)) rfl (setRow_heap _ _ _ _ _ _ ((setRow_other w1 (w.heap.size+1+1) (w.heap.size+1+1+1) _ (by omega)).trans rp3)) Tryd.underlying28 rfl hA.info Tryd.underlying28 rfl hB.info) rfl ⟨rfl,below_setRow (below_setRow hw (by omega) _) (by omega) _⟩
 ·have e0:bits .and .u64 (bits .xor .u64 a0 b0) 18446744073709551615=bits .xor .u64 a0 b0:=and_all _ (xor_bd a0 b0 h0.1 (by omega) g0.1 (by omega)).1 (xor_bd a0 b0 h0.1 (by omega) g0.1 (by omega)).2
  have i0:=xor_back a0 b0 h0.1 (by omega) g0.1 (by omega)
  have j0:=xor_back' a0 b0 h0.1 (by omega) g0.1 (by omega)
  have e1:bits .and .u64 (bits .xor .u64 a1 b1) 18446744073709551615=bits .xor .u64 a1 b1:=and_all _ (xor_bd a1 b1 h1.1 (by omega) g1.1 (by omega)).1 (xor_bd a1 b1 h1.1 (by omega) g1.1 (by omega)).2
  have i1:=xor_back a1 b1 h1.1 (by omega) g1.1 (by omega)
  have j1:=xor_back' a1 b1 h1.1 (by omega) g1.1 (by omega)
  have e2:bits .and .u64 (bits .xor .u64 a2 b2) 18446744073709551615=bits .xor .u64 a2 b2:=and_all _ (xor_bd a2 b2 h2.1 (by omega) g2.1 (by omega)).1 (xor_bd a2 b2 h2.1 (by omega) g2.1 (by omega)).2
  have i2:=xor_back a2 b2 h2.1 (by omega) g2.1 (by omega)
  have j2:=xor_back' a2 b2 h2.1 (by omega) g2.1 (by omega)
  have e3:bits .and .u64 (bits .xor .u64 a3 b3) 18446744073709551615=bits .xor .u64 a3 b3:=and_all _ (xor_bd a3 b3 h3.1 (by omega) g3.1 (by omega)).1 (xor_bd a3 b3 h3.1 (by omega) g3.1 (by omega)).2
  have i3:=xor_back a3 b3 h3.1 (by omega) g3.1 (by omega)
  have j3:=xor_back' a3 b3 h3.1 (by omega) g3.1 (by omega)
  have e4:bits .and .u64 (bits .xor .u64 a4 b4) 18446744073709551615=bits .xor .u64 a4 b4:=and_all _ (xor_bd a4 b4 h4.1 (by omega) g4.1 (by omega)).1 (xor_bd a4 b4 h4.1 (by omega) g4.1 (by omega)).2
  have i4:=xor_back a4 b4 h4.1 (by omega) g4.1 (by omega)
  have j4:=xor_back' a4 b4 h4.1 (by omega) g4.1 (by omega)
  clear h0 g0 h1 g1 h2 g2 h3 g3 h4 g4 ha hb
  go_enter Tryd.func63,Tryd.ntmps63
  go_wp2
  refine wp_loop_rounds 6 ?_;rw[rounds_succ]
  go_wp2
  go_quiet (fail)
  go_wp2
  rw[rounds_succ]
  go_wp2
  go_quiet (fail)
  go_wp2
  rw[rounds_succ]
  go_wp2
  go_quiet (fail)
  go_wp2
  rw[rounds_succ]
  go_wp2
  go_quiet (fail)
  go_wp2
  rw[rounds_succ]
  go_wp2
  go_quiet (fail)
  go_wp2
  rw[rounds_succ]
  go_wp2
  have rp0:∀k,(((((w.alloc (.cells #[.int .u64 b0,.int .u64 b1,.int .u64 b2,.int .u64 b3,.int .u64 b4] 28)).alloc (.cells #[.int .u64 a0,.int .u64 a1,.int .u64 a2,.int .u64 a3,.int .u64 a4] 28)).alloc (.cells #[.int .u64 0,.int .u64 0,.int .u64 0,.int .u64 0,.int .u64 0] 28)).alloc (.cells #[.int .u64 0,.int .u64 0,.int .u64 0,.int .u64 0,.int .u64 0] 28)).drewN k).heap[w.heap.size]? =some (.cells #[.int .u64 b0,.int .u64 b1,.int .u64 b2,.int .u64 b3,.int .u64 b4] 28 (0,0)):=fun k=>by rw[World.heap_drewN];exact hp4_0 w _ _ _ _
  have rp1:∀k,(((((w.alloc (.cells #[.int .u64 b0,.int .u64 b1,.int .u64 b2,.int .u64 b3,.int .u64 b4] 28)).alloc (.cells #[.int .u64 a0,.int .u64 a1,.int .u64 a2,.int .u64 a3,.int .u64 a4] 28)).alloc (.cells #[.int .u64 0,.int .u64 0,.int .u64 0,.int .u64 0,.int .u64 0] 28)).alloc (.cells #[.int .u64 0,.int .u64 0,.int .u64 0,.int .u64 0,.int .u64 0] 28)).drewN k).heap[w.heap.size+1]? =some (.cells #[.int .u64 a0,.int .u64 a1,.int .u64 a2,.int .u64 a3,.int .u64 a4] 28 (0,0)):=fun k=>by rw[World.heap_drewN];exact hp4_1 w _ _ _ _
  have rp2:∀k,(((((w.alloc (.cells #[.int .u64 b0,.int .u64 b1,.int .u64 b2,.int .u64 b3,.int .u64 b4] 28)).alloc (.cells #[.int .u64 a0,.int .u64 a1,.int .u64 a2,.int .u64 a3,.int .u64 a4] 28)).alloc (.cells #[.int .u64 0,.int .u64 0,.int .u64 0,.int .u64 0,.int .u64 0] 28)).alloc (.cells #[.int .u64 0,.int .u64 0,.int .u64 0,.int .u64 0,.int .u64 0] 28)).drewN k).heap[w.heap.size+1+1]? =some (.cells #[.int .u64 0,.int .u64 0,.int .u64 0,.int .u64 0,.int .u64 0] 28 (0,0)):=fun k=>by rw[World.heap_drewN];exact hp4_2 w _ _ _ _
  have rp3:∀k,(((((w.alloc (.cells #[.int .u64 b0,.int .u64 b1,.int .u64 b2,.int .u64 b3,.int .u64 b4] 28)).alloc (.cells #[.int .u64 a0,.int .u64 a1,.int .u64 a2,.int .u64 a3,.int .u64 a4] 28)).alloc (.cells #[.int .u64 0,.int .u64 0,.int .u64 0,.int .u64 0,.int .u64 0] 28)).alloc (.cells #[.int .u64 0,.int .u64 0,.int .u64 0,.int .u64 0,.int .u64 0] 28)).drewN k).heap[w.heap.size+1+1+1]? =some (.cells #[.int .u64 0,.int .u64 0,.int .u64 0,.int .u64 0,.int .u64 0] 28 (0,0)):=fun k=>by rw[World.heap_drewN];exact hp4_3 w _ _ _ _
  have hw:∀k,Below w.heap.size w (((((w.alloc (.cells #[.int .u64 b0,.int .u64 b1,.int .u64 b2,.int .u64 b3,.int .u64 b4] 28)).alloc (.cells #[.int .u64 a0,.int .u64 a1,.int .u64 a2,.int .u64 a3,.int .u64 a4] 28)).alloc (.cells #[.int .u64 0,.int .u64 0,.int .u64 0,.int .u64 0,.int .u64 0] 28)).alloc (.cells #[.int .u64 0,.int .u64 0,.int .u64 0,.int .u64 0,.int .u64 0] 28)).drewN k):=fun k=>below_drN (((((Below.refl _ _).alloc (Nat.le_refl _) _).alloc (by simp) _).alloc (by simp;omega) _).alloc (by simp;omega) _) k
  refine wp_region_pair (by kernel_rfl) (by kernel_rfl) (by kernel_rfl) (by kernel_rfl) (by kernel_rfl) (by kernel_rfl) (by kernel_rfl) (by kernel_rfl) 28 28 _ _ _ _ 43 44 rfl rfl rfl rfl rfl rfl rfl rfl rfl rfl rfl rfl (w.heap.size) (w.heap.size+1) (w.heap.size+1+1) (w.heap.size+1+1+1) #[.int .u64 b0,.int .u64 b1,.int .u64 b2,.int .u64 b3,.int .u64 b4] #[.int .u64 a0,.int .u64 a1,.int .u64 a2,.int .u64 a3,.int .u64 a4] #[.int .u64 0,.int .u64 0,.int .u64 0,.int .u64 0,.int .u64 0] #[.int .u64 0,.int .u64 0,.int .u64 0,.int .u64 0,.int .u64 0] 28 28 28 28 (0,0) (0,0) _ _ _ (rp0 _) (rp1 _) (rp2 _) (rp3 _) (by omega) (by omega) Tryd.underlying28 rfl hB.info rfl hB.one Tryd.underlying28 rfl hA.info rfl hA.one rfl rfl rfl rfl rfl rfl rfl rfl rfl rfl rfl rfl ?_
  intro w1 hb;replace rp2:=keep hb (rp2 _);replace rp3:=keep hb (rp3 _);replace hw:=Below.after (hw _) hb;clear rp0 rp1 hb
  go_wp2
  exact bodyPost_ret (v:=.tuple #[.agg #[.int .u64 b0,.int .u64 b1,.int .u64 b2,.int .u64 b3,.int .u64 b4],.agg #[.int .u64 a0,.int .u64 a1,.int .u64 a2,.int .u64 a3,.int .u64 a4]]) (results_rows2 Tryd.results63 _ _ (w.heap.size+1+1) (w.heap.size+1+1+1) _ _ #[.int .u64 b0,.int .u64 b1,.int .u64 b2,.int .u64 b3,.int .u64 b4] #[.int .u64 a0,.int .u64 a1,.int .u64 a2,.int .u64 a3,.int .u64 a4] _ _ _ _ rfl ((setRow_other _ (w.heap.size+1+1+1) (w.heap.size+1+1) _ (by omega)).trans (setRow_heap _ _ _ _ _ _ rp2)) rfl (setRow_heap _ _ _ _ _ _ ((setRow_other w1 (w.heap.size+1+1) (w.heap.size+1+1+1) _ (by omega)).trans rp3)) Tryd.underlying28 rfl hB.info Tryd.underlying28 rfl hA.info) rfl ⟨rfl,below_setRow (below_setRow hw (by omega) _) (by omega) _⟩
end Go.Proofs.YtdcpcdkbhgkmlaaDoor
namespace Go.Proofs.YtdcpcdkbhgkmlaaDoor
set_option maxRecDepth 100000
open Go.RowKit Go.Sort
attribute [local go_sem] setCell_drewN alloc_drewN
def ucells:Array Value:=#[.int .u64 1718705420411056,.int .u64 234908883556509,.int .u64 2233514472574048,.int .u64 2117202627021982,.int .u64 765476049583133]
theorem unit_num:NumOf ucells uu:=⟨1718705420411056,234908883556509,2233514472574048,2117202627021982,765476049583133,rfl,by decide,by decide⟩
def Both (w:World):Prop:=Four w∧∃t fr,w.heap[4]? =some (.cells ucells t fr)
theorem Both.sz {w:World} (h:Both w):4<w.heap.size:=by
 obtain⟨_,t,fr,hu⟩:=h;exact(Array.getElem?_eq_some_iff.1 hu).1
theorem Both.belowN {w w':World} {n:Nat} (h:Both w) (hn:4<n) (hb:Below n w w'):Both w':=by
 obtain⟨h4,t,fr,hu⟩:=h
 exact⟨h4.belowN (by omega) hb,t,fr,(hb.block 4 hn).trans hu⟩
theorem Both.below {w w':World} (h:Both w) (hb:Below w.heap.size w w'):Both w':=h.belowN h.sz hb
theorem Both.alloc {w:World} (h:Both w) (o:Obj):Both (w.alloc o):=h.below ((Below.refl _ _).alloc (Nat.le_refl _) _)
theorem Both.setRow {w:World} {g:Nat} (h:Both w) (hg:4<g) (cs:Array Value):Both (w.setRow g cs):=h.belowN (n:=5) (by decide) (below_setRow (Below.refl _ _) hg cs)
def Gives5 (f:FuncId) (args:Array Value) (v:Value):Prop:=∀W,Both W→Calls Tryd.prog f args W fun e w'=>e=.returned v∧Below W.heap.size W w'
theorem Gives5.at {f:FuncId} {args:Array Value} {v:Value} (h:Gives5 f args v) {W:World} (hW:Both W):Calls Tryd.prog f args W fun e w'=>e=.returned v∧Below W.heap.size W w':=h W hW
theorem Gives5.re {f:FuncId} {args:Array Value} {v:Value} (h:Gives5 f args v) {w:World} {d:Nat} {os:Array Obj} (hw:Both w):Calls Tryd.prog f args (grow (redrawn w d) os) fun e w''=>e=.returned v∧∃p:Regrown,w''=grow (redrawn w p.d) p.os:=Calls.regrown_of (h _ (hw.below (below_regrown w d os)))
theorem odd_ev (x:Int):(byt (x%prm) 0%2==1)=decide (x%prm%2=1):=by
 have e:byt (x%prm) 0%2=x%prm%2:=by
  simp only[byt,Int.pow_zero,Int.ediv_one];omega
 rw[e]
 by_cases h:x%prm%2=1
 ·rw[decide_eq_true h,beq_iff_eq];exact h
 ·rw[decide_eq_false h,beq_eq_false_iff_ne];exact h
theorem a_odd_ev {r:Array Value} {x:Int} (h:NumOf r x):Gives 43 #[.agg r] (.bool (decide (x%prm%2=1))):=by
 have:=a_odd h
 rwa [odd_ev] at this
theorem a_swap_ev {r s:Array Value} {x:Int} (h:NumOf r x) (g:NumOf s (-x)):∃p q y,NumOf p (ev x)∧NumOf q y∧Gives 63 #[.agg r,.agg s,.bool (decide (x%prm%2=1))] (.tuple #[.agg p,.agg q]):=by
 have c:=a_swap h g (decide (x%prm%2=1))
 by_cases e:x%prm%2=1
 ·rw[decide_eq_true e] at c⊢
  exact⟨s,r,x,by unfold ev;rw[if_pos e];exact g,h,c⟩
 ·rw[decide_eq_false e] at c⊢
  exact⟨r,s,-x,by unfold ev;rw[if_neg e];exact h,g,c⟩
theorem results_row_slot {P:Program} {fn:Func} {p q:Tmp} {ty:TypeId} (h:fn.results=#[.cell p ty,.tmp q]) (tmps:Array Value) (w:World) (g:Nat) (t:TypeId) (cs:Array Value) (fr:Nat×Nat) (d:TypeDesc) (v:Value)
 (hp:tmps.getD p undef=.pointer (some ⟨g,0,none⟩)) (hg:w.heap[g]? =some (.cells cs t fr)) (hq:tmps.getD q undef=v)
 (hu:P.underlying ty=some d) (hd:(match d with| .struct _| .array _ _=>true|_=>false)=true) (hi:(P.info? ty).map (·.size)=some cs.size):
 (results fn tmps).run P w=.ok (.tuple #[.agg cs,v]) w:=by
 have hp':tmps[p]?.getD undef=.pointer (some ⟨g,0,none⟩):=by simpa using hp
 have hq':tmps[q]?.getD undef=v:=by simpa using hq
 simp[results,h,hp',hq',asAddr,run_loadVar_row w g t ty cs fr d hg hu hd hi]
theorem a_equal_t {r s:Array Value} {x y:Int} (h:NumOf r x) (g:NumOf s y) (e:x%prm=y%prm):Gives 105 #[.agg r,.agg s] (.bool true):=by
 have:=a_equal h g
 rwa [decide_eq_true e] at this
theorem a_equal_f {r s:Array Value} {x y:Int} (h:NumOf r x) (g:NumOf s y) (e:x%prm≠y%prm):Gives 105 #[.agg r,.agg s] (.bool false):=by
 have:=a_equal h g
 rwa [decide_eq_false e] at this
end Go.Proofs.YtdcpcdkbhgkmlaaDoor
namespace Go.Proofs.YtdcpcdkbhgkmlaaDoor
set_option maxRecDepth 100000
open Go.ChangeShapes Go.WideShapes Go.ChangeAt Go.WideMaps Go.WideElems Go.RowKit
theorem gUnit : Tryd.prog.globalNamed "pawl/field.unit" = some 4 := by kernel_rfl
theorem tUnit:(Tryd.prog.globals[4]?).map (·.type)=some 28:=by kernel_rfl
theorem cNum:Tryd.prog.cellsOf 28=5:=by kernel_rfl
end Go.Proofs.YtdcpcdkbhgkmlaaDoor
namespace Go.Proofs.YtdcpcdkbhgkmlaaDoor
set_option maxRecDepth 100000
def Zp (a:Int):Prop:=a%prm=0
theorem zp_zero:Zp 0:=by unfold Zp;decide
theorem zp_dvd {a:Int}:Zp a↔prm∣a:=by unfold Zp;exact⟨Int.dvd_of_emod_eq_zero,Int.emod_eq_zero_of_dvd⟩
theorem zp_mul (k:Int) {a:Int} (h:Zp a):Zp (k*a):=by rw[zp_dvd] at *;exact Int.dvd_mul_of_dvd_right h
theorem zp_add {a b:Int} (h:Zp a) (g:Zp b):Zp (a+b):=by rw[zp_dvd] at *;exact Int.dvd_add h g
theorem zp_lin1 {h g:Int} (k:Int) (hh:Zp h) (e:g=k*h):Zp g:=e▸zp_mul k hh
theorem zp_lin2 {h1 h2 g:Int} (k1 k2:Int) (a1:Zp h1) (a2:Zp h2) (e:g=k1*h1+k2*h2):Zp g:=e▸zp_add (zp_mul k1 a1) (zp_mul k2 a2)
theorem zp_lin3 {h1 h2 h3 g:Int} (k1 k2 k3:Int) (a1:Zp h1) (a2:Zp h2) (a3:Zp h3) (e:g=k1*h1+k2*h2+k3*h3):Zp g:=e▸zp_add (zp_add (zp_mul k1 a1) (zp_mul k2 a2)) (zp_mul k3 a3)
theorem zp_lin4 {h1 h2 h3 h4 g:Int} (k1 k2 k3 k4:Int) (a1:Zp h1) (a2:Zp h2) (a3:Zp h3) (a4:Zp h4) (e:g=k1*h1+k2*h2+k3*h3+k4*h4):Zp g:=e▸zp_add (zp_add (zp_add (zp_mul k1 a1) (zp_mul k2 a2)) (zp_mul k3 a3)) (zp_mul k4 a4)
theorem zp_or {a b:Int} (h:Zp (a*b)):Zp a∨Zp b:=(mul_zero_iff a b).1 h
theorem zp_cancel {a b:Int} (h:Zp (a*b)) (ha:¬Zp a):Zp b:=(zp_or h).resolve_left ha
theorem zp_ne_mul {a b:Int} (ha:¬Zp a) (hb:¬Zp b):¬Zp (a*b):=fun h=>(zp_or h).elim ha hb
theorem zp_one:¬Zp 1:=by unfold Zp;decide
theorem zp_two:¬Zp 2:=by unfold Zp;decide
theorem zp_sub {a b:Int}:Zp (a-b)↔a%prm=b%prm:=⟨sub_zero_c,fun h=>by unfold Zp;rw[Int.sub_emod,h,Int.sub_self];rfl⟩
def iv (a:Int):Int:=a^57896044618658097711785492504343953926634992332820282019728792003956564819947
theorem iv_mul {a:Int} (h:¬Zp a):Zp (a*iv a-1):=zp_sub.2 (inv_mul h)
def NonSq (c:Int):Prop:=∀r,¬Zp (r*r-c)
theorem NonSq.of_ratio {c u v:Int} (hc:NonSq c) (h:Zp (u*u-c*(v*v))):Zp v:=by
 apply Classical.byContradiction
 intro hv;refine hc (u*iv v) ?_;have hi:=iv_mul hv
 generalize iv v=i at *
 exact zp_lin2 (i*i) (c*(v*i+1)) h hi (by grind)
theorem ed_den {c x1 y1 x2 y2:Int} (hc:NonSq c) (h1:Zp (x1*x1+y1*y1-1-c*x1*x1*y1*y1)) (h2:Zp (x2*x2+y2*y2-1-c*x2*x2*y2*y2)) (ep:Int) (he:ep*ep=1):¬Zp (c*x1*x2*y1*y2-ep):=by
 intro h
 have g:∀s:Int,s*s=1→Zp (x1*y1*(x2+s*y2)):=fun s hs=>by
  refine hc.of_ratio (u:=x1+s*ep*y1) ?_
  exact zp_lin3 (-(c*x1*x2*y1*y2-ep+2*ep)-2*s*x1*y1) 1 (-(c*x1*x1*y1*y1)) h h1 h2 (by grind)
 have n1:¬Zp (x1*y1):=fun q=>by
  have:Zp ep:=zp_lin2 (c*x2*y2) (-1) q h (by grind)
  exact zp_one (zp_lin1 ep this he.symm)
 have n2:¬Zp x2:=fun q=>by
  have:Zp ep:=zp_lin2 (c*x1*y1*y2) (-1) q h (by grind)
  exact zp_one (zp_lin1 ep this he.symm)
 have a1:=zp_cancel (g 1 (by decide)) n1
 have a2:=zp_cancel (g (-1) (by decide)) n1
 have:Zp (2*x2):=zp_lin2 1 1 a1 a2 (by grind)
 exact n2 (zp_cancel this zp_two)
theorem ed_plus {c x1 y1 x2 y2:Int} (hc:NonSq c) (h1:Zp (x1*x1+y1*y1-1-c*x1*x1*y1*y1)) (h2:Zp (x2*x2+y2*y2-1-c*x2*x2*y2*y2)):¬Zp (1+(c*x1*x2*y1*y2)):=fun h=>ed_den hc h1 h2 (-1) (by decide) (zp_lin1 1 h (by grind))
theorem ed_minus {c x1 y1 x2 y2:Int} (hc:NonSq c) (h1:Zp (x1*x1+y1*y1-1-c*x1*x1*y1*y1)) (h2:Zp (x2*x2+y2*y2-1-c*x2*x2*y2*y2)):¬Zp (1-(c*x1*x2*y1*y2)):=fun h=>ed_den hc h1 h2 1 (by decide) (zp_lin1 (-1) h (by grind))
theorem ed_closed {c x1 y1 x2 y2 x y:Int} (hc:NonSq c) (h1:Zp (x1*x1+y1*y1-1-c*x1*x1*y1*y1)) (h2:Zp (x2*x2+y2*y2-1-c*x2*x2*y2*y2)) (hx:Zp (x*(1+(c*x1*x2*y1*y2))-(x1*y2+y1*x2))) (hy:Zp (y*(1-(c*x1*x2*y1*y2))-(y1*y2-x1*x2))):Zp (x*x+y*y-1-c*x*x*y*y):=by
 have k:Zp ((x1*y2+y1*x2)*(x1*y2+y1*x2)*((1-(c*x1*x2*y1*y2))*(1-(c*x1*x2*y1*y2)))+(y1*y2-x1*x2)*(y1*y2-x1*x2)*((1+(c*x1*x2*y1*y2))*(1+(c*x1*x2*y1*y2)))-(1-(c*x1*x2*y1*y2)*(c*x1*x2*y1*y2))*(1-(c*x1*x2*y1*y2)*(c*x1*x2*y1*y2))-c*((x1*y2+y1*x2)*(x1*y2+y1*x2))*((y1*y2-x1*x2)*(y1*y2-x1*x2))):=
  zp_lin2 (x2*x2*x2*x2+y2*y2*y2*y2-2*x2*x2*y2*y2*y2*y2-2*x2*x2*x2*x2*y2*y2+4*x2*x2*y2*y2-c*c*x2*x2*x2*x2*y2*y2*y2*y2-2*c*x2*x2*y2*y2+2*c*x2*x2*x2*x2*y2*y2*y2*y2+c*c*x1*x1*x2*x2*x2*x2*y2*y2*y2*y2+c*c*x2*x2*x2*x2*y1*y1*y2*y2*y2*y2-c*x1*x1*x2*x2*y2*y2*y2*y2-c*x1*x1*x2*x2*x2*x2*y2*y2-c*x2*x2*y1*y1*y2*y2*y2*y2-c*x2*x2*x2*x2*y1*y1*y2*y2+c*c*c*x1*x1*x2*x2*x2*x2*y1*y1*y2*y2*y2*y2) (1+x2*x2+y2*y2-x1*x1*x2*x2-x1*x1*y2*y2-x2*x2*y1*y1-y1*y1*y2*y2-2*x2*x2*y2*y2+c*x2*x2*y2*y2+2*x1*x1*x2*x2*y2*y2+2*x2*x2*y1*y1*y2*y2+c*x1*x1*x1*x1*x2*x2*y2*y2+c*x2*x2*y1*y1*y1*y1*y2*y2-2*c*x1*x1*x2*x2*y2*y2-2*c*x2*x2*y1*y1*y2*y2) h1 h2 (by grind)
 have np:=ed_plus hc h1 h2;have nm:=ed_minus hc h1 h2
 generalize (x1*y2+y1*x2)=X at *
 generalize (y1*y2-x1*x2)=Y at *
 generalize (c*x1*x2*y1*y2)=t at *
 refine zp_cancel (a:=(1+t)*(1+t)*((1-t)*(1-t))) ?_ (zp_ne_mul (zp_ne_mul np np) (zp_ne_mul nm nm))
 have hX:Zp ((x*(1+t))*(x*(1+t))-X*X):=zp_lin1 (x*(1+t)+X) hx (by grind)
 have hY:Zp ((y*(1-t))*(y*(1-t))-Y*Y):=zp_lin1 (y*(1-t)+Y) hy (by grind)
 exact zp_lin3 ((1-t)*(1-t)-c*((y*(1-t))*(y*(1-t)))) ((1+t)*(1+t)-c*(X*X)) 1 hX hY k (by grind)
theorem ed_assoc_x {c x1 y1 x2 y2 x3 y3:Int} (h1:Zp (x1*x1+y1*y1-1-c*x1*x1*y1*y1)) (h2:Zp (x2*x2+y2*y2-1-c*x2*x2*y2*y2)) (h3:Zp (x3*x3+y3*y3-1-c*x3*x3*y3*y3)):
 Zp (((x1*y2+y1*x2)*y3*(1-(c*x1*x2*y1*y2))+(y1*y2-x1*x2)*x3*(1+(c*x1*x2*y1*y2)))*((1-(c*x2*x3*y2*y3)*(c*x2*x3*y2*y3))+c*x1*y1*(x2*y3+y2*x3)*(y2*y3-x2*x3))-(x1*(y2*y3-x2*x3)*(1+(c*x2*x3*y2*y3))+y1*(x2*y3+y2*x3)*(1-(c*x2*x3*y2*y3)))*((1-(c*x1*x2*y1*y2)*(c*x1*x2*y1*y2))+c*(x1*y2+y1*x2)*(y1*y2-x1*x2)*x3*y3)):=
 zp_lin3 (c*x1*x3*x2*x2*x2*y2*y2+c*x1*x2*x2*y2*y2*y2*y3*y3*y3+c*y1*x2*x2*x3*x3*x3*y2*y2*y2+c*y1*x2*x2*x2*y2*y2*y3*y3*y3-c*x1*y3*x2*x2*y2*y2*y2-c*x1*x2*x2*x2*x3*x3*x3*y2*y2-c*x3*y1*x2*x2*y2*y2*y2-c*y1*y3*x2*x2*x2*y2*y2+c*x1*x2*x3*y2*y2*y2*y2*y3*y3+x1*y3*c*c*x2*x2*x2*x2*x3*x3*y2*y2*y2+x3*y1*c*c*x2*x2*x2*x2*y2*y2*y2*y3*y3+y1*y3*c*c*x2*x2*x2*x3*x3*y2*y2*y2*y2-c*x1*y2*y3*x2*x2*x2*x2*x3*x3-c*x2*y1*y3*x3*x3*y2*y2*y2*y2-c*x3*y1*y2*x2*x2*x2*x2*y3*y3-x1*x3*c*c*x2*x2*x2*y2*y2*y2*y2*y3*y3) (x1*x2*x3*x3*x3+x1*y2*y3+x2*x3*x1*x1*x1+x2*y1*y3+x2*y1*y1*y1*y3*y3*y3+x3*y1*y2+y2*x1*x1*x1*y3*y3*y3+y2*x3*x3*x3*y1*y1*y1-x1*x2*x3-x1*y2*y3*y3*y3-x2*y1*y3*y3*y3-x2*y3*y1*y1*y1-x2*x1*x1*x1*x3*x3*x3-x3*y2*y1*y1*y1-y1*y2*x3*x3*x3-y2*y3*x1*x1*x1+x1*x2*x3*y1*y1+x1*x2*x3*y3*y3+x1*y2*y1*y1*y3*y3*y3+x2*y1*x1*x1*y3*y3*y3+x2*y3*x3*x3*y1*y1*y1+x3*y2*y1*y1*y1*y3*y3+y1*y2*x1*x1*x3*x3*x3+y2*y3*x1*x1*x1*x3*x3-x1*x2*x3*x3*x3*y1*y1-x1*y2*y3*x3*x3-x1*y2*y3*y1*y1-x2*x3*x1*x1*x1*y3*y3-x2*y1*y3*x1*x1-x2*y1*y3*x3*x3-x3*y1*y2*x1*x1-x3*y1*y2*y3*y3+c*x1*y2*x3*x3*y3*y3*y3+c*x2*y1*x3*x3*y3*y3*y3+c*x2*x1*x1*x1*x3*x3*x3*y3*y3+c*y1*y2*x3*x3*x3*y3*y3+x1*y2*y3*x3*x3*y1*y1+x2*y1*y3*x1*x1*x3*x3+x3*y1*y2*x1*x1*y3*y3-c*x1*x2*x3*x3*x3*y3*y3-c*x2*x3*x3*y1*y1*y1*y3*y3*y3-c*y2*x1*x1*x1*x3*x3*y3*y3*y3-c*y2*x3*x3*x3*y1*y1*y1*y3*y3-x1*x2*x3*y1*y1*y3*y3+c*x1*x2*x3*y2*y2*y3*y3+c*x1*x2*x3*x3*x3*y1*y1*y3*y3+c*x2*y3*x3*x3*y1*y1*y1*y2*y2+c*x3*y2*x2*x2*y1*y1*y1*y3*y3+c*y2*y3*x1*x1*x1*x2*x2*x3*x3-c*x1*y2*y3*x2*x2*x3*x3-c*x1*y2*x3*x3*y1*y1*y3*y3*y3-c*x2*x3*x1*x1*x1*y2*y2*y3*y3-c*x2*y1*y3*x3*x3*y2*y2-c*x2*y1*x1*x1*x3*x3*y3*y3*y3-c*x3*y1*y2*x2*x2*y3*y3-c*y1*y2*x1*x1*x3*x3*x3*y3*y3+c*x1*y2*y3*x2*x2*x3*x3*y1*y1+c*x2*y1*y3*x1*x1*x3*x3*y2*y2+c*x3*y1*y2*x1*x1*x2*x2*y3*y3+x1*x2*c*c*x3*x3*x3*y1*y1*y2*y2*y3*y3-c*x1*x2*x3*y1*y1*y2*y2*y3*y3-x1*y2*c*c*x2*x2*x3*x3*y1*y1*y3*y3*y3-x2*y1*c*c*x1*x1*x3*x3*y2*y2*y3*y3*y3-y1*y2*c*c*x1*x1*x2*x2*x3*x3*x3*y3*y3) (x1*x2*x3+x1*y3*y2*y2*y2+x2*y3*y1*y1*y1+x3*y1*y2*y2*y2+x3*y2*y1*y1*y1+x3*x1*x1*x1*x2*x2*x2+y1*y3*x2*x2*x2+y2*y3*x1*x1*x1-x1*x3*x2*x2*x2-x1*y2*y3-x2*x3*x1*x1*x1-x2*y1*y3-x3*y1*y2-x3*y1*y1*y1*y2*y2*y2-y3*x1*x1*x1*y2*y2*y2-y3*x2*x2*x2*y1*y1*y1+x1*x3*x2*x2*x2*y1*y1+x1*y2*y3*x2*x2+x1*y2*y3*y1*y1+x2*x3*x1*x1*x1*y2*y2+x2*y1*y3*x1*x1+x2*y1*y3*y2*y2+x3*y1*y2*x1*x1+x3*y1*y2*x2*x2-x1*x2*x3*y1*y1-x1*x2*x3*y2*y2-x1*y3*y1*y1*y2*y2*y2-x2*y3*y1*y1*y1*y2*y2-x3*y1*x1*x1*y2*y2*y2-x3*y2*x2*x2*y1*y1*y1-y1*y3*x1*x1*x2*x2*x2-y2*y3*x1*x1*x1*x2*x2+x1*x2*x3*y1*y1*y2*y2-x1*y2*y3*x2*x2*y1*y1-x2*y1*y3*x1*x1*y2*y2-x3*y1*y2*x1*x1*x2*x2+c*x1*y2*y3*x2*x2*y1*y1+c*x2*y1*y3*x1*x1*y2*y2+c*x3*y1*y2*x1*x1*x2*x2-c*x1*x2*x3*y1*y1*y2*y2) h1 h2 h3 (by grind)
theorem ed_assoc_y {c x1 y1 x2 y2 x3 y3:Int} (h1:Zp (x1*x1+y1*y1-1-c*x1*x1*y1*y1)) (h2:Zp (x2*x2+y2*y2-1-c*x2*x2*y2*y2)) (h3:Zp (x3*x3+y3*y3-1-c*x3*x3*y3*y3)):
 Zp (((y1*y2-x1*x2)*y3*(1+(c*x1*x2*y1*y2))-(x1*y2+y1*x2)*x3*(1-(c*x1*x2*y1*y2)))*((1-(c*x2*x3*y2*y3)*(c*x2*x3*y2*y3))-c*x1*y1*(x2*y3+y2*x3)*(y2*y3-x2*x3))-(y1*(y2*y3-x2*x3)*(1+(c*x2*x3*y2*y3))-x1*(x2*y3+y2*x3)*(1-(c*x2*x3*y2*y3)))*((1-(c*x1*x2*y1*y2)*(c*x1*x2*y1*y2))-c*(x1*y2+y1*x2)*(y1*y2-x1*x2)*x3*y3)):=
 zp_lin3 (c*x1*x3*x2*x2*y2*y2*y2+c*x1*y3*x2*x2*x2*y2*y2+c*x3*y1*x2*x2*x2*y2*y2+c*y1*x2*x2*y2*y2*y2*y3*y3*y3-c*x1*x2*x2*x3*x3*x3*y2*y2*y2-c*x1*x2*x2*x2*y2*y2*y3*y3*y3-c*y1*y3*x2*x2*y2*y2*y2-c*y1*x2*x2*x2*x3*x3*x3*y2*y2+c*x1*x2*y3*x3*x3*y2*y2*y2*y2+c*x1*x3*y2*x2*x2*x2*x2*y3*y3+c*x2*x3*y1*y2*y2*y2*y2*y3*y3+y1*y3*c*c*x2*x2*x2*x2*x3*x3*y2*y2*y2-c*y1*y2*y3*x2*x2*x2*x2*x3*x3-x1*x3*c*c*x2*x2*x2*x2*y2*y2*y2*y3*y3-x1*y3*c*c*x2*x2*x2*x3*x3*y2*y2*y2*y2-x3*y1*c*c*x2*x2*x2*y2*y2*y2*y2*y3*y3) (x1*x2*y3*y3*y3+x1*y2*x3*x3*x3+x2*x3*y1*y1*y1+x2*y1*x3*x3*x3+x2*y3*x1*x1*x1+x3*y2*x1*x1*x1+y1*y2*y3+y2*y1*y1*y1*y3*y3*y3-x1*x2*y3-x1*x3*y2-x2*x3*y1-x2*x1*x1*x1*y3*y3*y3-x2*x3*x3*x3*y1*y1*y1-y1*y2*y3*y3*y3-y2*y3*y1*y1*y1-y2*x1*x1*x1*x3*x3*x3+x1*x2*y3*x3*x3+x1*x2*y3*y1*y1+x1*x3*y2*y1*y1+x1*x3*y2*y3*y3+x2*x3*y1*x1*x1+x2*x3*y1*y3*y3+y1*y2*x1*x1*y3*y3*y3+y2*y3*x3*x3*y1*y1*y1-x1*x2*y1*y1*y3*y3*y3-x1*y2*x3*x3*x3*y1*y1-x2*x3*y1*y1*y1*y3*y3-x2*y1*x1*x1*x3*x3*x3-x2*y3*x1*x1*x1*x3*x3-x3*y2*x1*x1*x1*y3*y3-y1*y2*y3*x1*x1-y1*y2*y3*x3*x3+c*x2*x1*x1*x1*x3*x3*y3*y3*y3+c*x2*x3*x3*x3*y1*y1*y1*y3*y3+c*y1*y2*x3*x3*y3*y3*y3+c*y2*x1*x1*x1*x3*x3*x3*y3*y3+y1*y2*y3*x1*x1*x3*x3-c*x1*x2*x3*x3*y3*y3*y3-c*x1*y2*x3*x3*x3*y3*y3-c*x2*y1*x3*x3*x3*y3*y3-c*y2*x3*x3*y1*y1*y1*y3*y3*y3-x1*x2*y3*x3*x3*y1*y1-x1*x3*y2*y1*y1*y3*y3-x2*x3*y1*x1*x1*y3*y3+c*x1*x2*y3*x3*x3*y2*y2+c*x1*x2*x3*x3*y1*y1*y3*y3*y3+c*x1*x3*y2*x2*x2*y3*y3+c*x1*y2*x3*x3*x3*y1*y1*y3*y3+c*x2*x3*y1*y2*y2*y3*y3+c*x2*y1*x1*x1*x3*x3*x3*y3*y3+c*y2*y3*x2*x2*x3*x3*y1*y1*y1-c*x2*x3*y1*y1*y1*y2*y2*y3*y3-c*x2*y3*x1*x1*x1*x3*x3*y2*y2-c*x3*y2*x1*x1*x1*x2*x2*y3*y3-c*y1*y2*y3*x2*x2*x3*x3-c*y1*y2*x1*x1*x3*x3*y3*y3*y3+c*y1*y2*y3*x1*x1*x2*x2*x3*x3+x1*x2*c*c*x3*x3*y1*y1*y2*y2*y3*y3*y3+x1*y2*c*c*x2*x2*x3*x3*x3*y1*y1*y3*y3+x2*y1*c*c*x1*x1*x3*x3*x3*y2*y2*y3*y3-c*x1*x2*y3*x3*x3*y1*y1*y2*y2-c*x1*x3*y2*x2*x2*y1*y1*y3*y3-c*x2*x3*y1*x1*x1*y2*y2*y3*y3-y1*y2*c*c*x1*x1*x2*x2*x3*x3*y3*y3*y3) (x1*x2*y3+x1*x3*y2+x2*x3*y1+x3*x1*x1*x1*y2*y2*y2+x3*x2*x2*x2*y1*y1*y1+y1*y3*y2*y2*y2+y2*y3*y1*y1*y1+y3*x1*x1*x1*x2*x2*x2-x1*x3*y2*y2*y2-x1*y3*x2*x2*x2-x2*x3*y1*y1*y1-x2*y3*x1*x1*x1-x3*y1*x2*x2*x2-x3*y2*x1*x1*x1-y1*y2*y3-y3*y1*y1*y1*y2*y2*y2+x1*x3*y1*y1*y2*y2*y2+x1*y3*x2*x2*x2*y1*y1+x2*x3*y1*y1*y1*y2*y2+x2*y3*x1*x1*x1*y2*y2+x3*y1*x1*x1*x2*x2*x2+x3*y2*x1*x1*x1*x2*x2+y1*y2*y3*x1*x1+y1*y2*y3*x2*x2-x1*x2*y3*y1*y1-x1*x2*y3*y2*y2-x1*x3*y2*x2*x2-x1*x3*y2*y1*y1-x2*x3*y1*x1*x1-x2*x3*y1*y2*y2-y1*y3*x1*x1*y2*y2*y2-y2*y3*x2*x2*y1*y1*y1+x1*x2*y3*y1*y1*y2*y2+x1*x3*y2*x2*x2*y1*y1+x2*x3*y1*x1*x1*y2*y2-y1*y2*y3*x1*x1*x2*x2+c*y1*y2*y3*x1*x1*x2*x2-c*x1*x2*y3*y1*y1*y2*y2-c*x1*x3*y2*x2*x2*y1*y1-c*x2*x3*y1*x1*x1*y2*y2) h1 h2 h3 (by grind)
end Go.Proofs.YtdcpcdkbhgkmlaaDoor
namespace Go.Proofs.YtdcpcdkbhgkmlaaDoor
set_option maxRecDepth 100000
theorem zp_emod (a:Int):Zp (a%prm-a):=zp_sub.2 (Int.emod_emod _ _)
structure EP (c:Int) where
 x:Int
 y:Int
 hx:x%prm=x
 hy:y%prm=y
 on:Zp (x*x+y*y-1-c*x*x*y*y)
theorem EP.eq {c:Int} {P Q:EP c} (h1:Zp (P.x-Q.x)) (h2:Zp (P.y-Q.y)):P=Q:=by
 have e1:P.x=Q.x:=by rw[←P.hx,←Q.hx];exact zp_sub.1 h1
 have e2:P.y=Q.y:=by rw[←P.hy,←Q.hy];exact zp_sub.1 h2
 cases P;cases Q
 simp at e1 e2
 subst e1 e2;rfl
theorem quot_spec {X d:Int} (hd:¬Zp d):Zp ((X*iv d)%prm*d-X):=by
 have h1:=zp_emod (X*iv d);have h2:=iv_mul hd
 generalize iv d=i at *
 generalize (X*i)%prm=q at *
 exact zp_lin2 d X h1 h2 (by grind)
theorem as_x {c x1 y1 x2 y2 x3 y3 xa ya xb yb xL xR:Int}
 (ax:Zp (xa*(1+(c*x1*x2*y1*y2))-(x1*y2+y1*x2))) (ay:Zp (ya*(1-(c*x1*x2*y1*y2))-(y1*y2-x1*x2)))
 (bx:Zp (xb*(1+(c*x2*x3*y2*y3))-(x2*y3+y2*x3))) (by':Zp (yb*(1-(c*x2*x3*y2*y3))-(y2*y3-x2*x3)))
 (lx:Zp (xL*(1+(c*xa*x3*ya*y3))-(xa*y3+ya*x3))) (rx:Zp (xR*(1+(c*x1*xb*y1*yb))-(x1*yb+y1*xb)))
 (d1:¬Zp (1+(c*x1*x2*y1*y2))) (d2:¬Zp (1-(c*x1*x2*y1*y2))) (d3:¬Zp (1+(c*x2*x3*y2*y3))) (d4:¬Zp (1-(c*x2*x3*y2*y3)))
 (f1:¬Zp (1+(c*xa*x3*ya*y3))) (f3:¬Zp (1+(c*x1*xb*y1*yb)))
 (kx:Zp (((x1*y2+y1*x2)*y3*(1-(c*x1*x2*y1*y2))+(y1*y2-x1*x2)*x3*(1+(c*x1*x2*y1*y2)))*((1-(c*x2*x3*y2*y3)*(c*x2*x3*y2*y3))+c*x1*y1*(x2*y3+y2*x3)*(y2*y3-x2*x3))-(x1*(y2*y3-x2*x3)*(1+(c*x2*x3*y2*y3))+y1*(x2*y3+y2*x3)*(1-(c*x2*x3*y2*y3)))*((1-(c*x1*x2*y1*y2)*(c*x1*x2*y1*y2))+c*(x1*y2+y1*x2)*(y1*y2-x1*x2)*x3*y3))):
 Zp (xL-xR):=by
 generalize c*x1*x2*y1*y2=t at *
 generalize c*x2*x3*y2*y3=u at *
 generalize x1*y2+y1*x2=X at *
 generalize y1*y2-x1*x2=Y at *
 generalize x2*y3+y2*x3=V at *
 generalize y2*y3-x2*x3=W at *
 have aXY:Zp (xa*ya*((1+t)*(1-t))-X*Y):=zp_lin2 (ya*(1-t)) X ax ay (by grind)
 have bXY:Zp (xb*yb*((1+u)*(1-u))-V*W):=zp_lin2 (yb*(1-u)) V bx by' (by grind)
 have hL:Zp (xL*((1-t*t)+c*X*Y*x3*y3)-(X*y3*(1-t)+Y*x3*(1+t))):=
  zp_lin4 ((1+t)*(1-t)) (-(xL*c*x3*y3)) (y3*(1-t)) (x3*(1+t)) lx aXY ax ay (by grind)
 have hR:Zp (xR*((1-u*u)+c*x1*y1*V*W)-(x1*W*(1+u)+y1*V*(1-u))):=
  zp_lin4 ((1+u)*(1-u)) (-(xR*c*x1*y1)) (y1*(1-u)) (x1*(1+u)) rx bXY bx by' (by grind)
 have nL:¬Zp ((1-t*t)+c*X*Y*x3*y3):=fun h=>zp_ne_mul (zp_ne_mul d1 d2) f1 (zp_lin2 1 (c*x3*y3) h aXY (by grind))
 have nR:¬Zp ((1-u*u)+c*x1*y1*V*W):=fun h=>zp_ne_mul (zp_ne_mul d3 d4) f3 (zp_lin2 1 (c*x1*y1) h bXY (by grind))
 generalize (1-t*t)+c*X*Y*x3*y3=DL at *
 generalize (1-u*u)+c*x1*y1*V*W=DR at *
 generalize X*y3*(1-t)+Y*x3*(1+t)=NL at *
 generalize x1*W*(1+u)+y1*V*(1-u)=NR at *
 exact zp_cancel (zp_lin3 DR (-DL) 1 hL hR kx (by grind)) (zp_ne_mul nL nR)
theorem as_y {c x1 y1 x2 y2 x3 y3 xa ya xb yb yL yR:Int}
 (ax:Zp (xa*(1+(c*x1*x2*y1*y2))-(x1*y2+y1*x2))) (ay:Zp (ya*(1-(c*x1*x2*y1*y2))-(y1*y2-x1*x2)))
 (bx:Zp (xb*(1+(c*x2*x3*y2*y3))-(x2*y3+y2*x3))) (by':Zp (yb*(1-(c*x2*x3*y2*y3))-(y2*y3-x2*x3)))
 (ly:Zp (yL*(1-(c*xa*x3*ya*y3))-(ya*y3-xa*x3))) (ry:Zp (yR*(1-(c*x1*xb*y1*yb))-(y1*yb-x1*xb)))
 (d1:¬Zp (1+(c*x1*x2*y1*y2))) (d2:¬Zp (1-(c*x1*x2*y1*y2))) (d3:¬Zp (1+(c*x2*x3*y2*y3))) (d4:¬Zp (1-(c*x2*x3*y2*y3)))
 (f2:¬Zp (1-(c*xa*x3*ya*y3))) (f4:¬Zp (1-(c*x1*xb*y1*yb)))
 (ky:Zp (((y1*y2-x1*x2)*y3*(1+(c*x1*x2*y1*y2))-(x1*y2+y1*x2)*x3*(1-(c*x1*x2*y1*y2)))*((1-(c*x2*x3*y2*y3)*(c*x2*x3*y2*y3))-c*x1*y1*(x2*y3+y2*x3)*(y2*y3-x2*x3))-(y1*(y2*y3-x2*x3)*(1+(c*x2*x3*y2*y3))-x1*(x2*y3+y2*x3)*(1-(c*x2*x3*y2*y3)))*((1-(c*x1*x2*y1*y2)*(c*x1*x2*y1*y2))-c*(x1*y2+y1*x2)*(y1*y2-x1*x2)*x3*y3))):
 Zp (yL-yR):=by
 generalize c*x1*x2*y1*y2=t at *
 generalize c*x2*x3*y2*y3=u at *
 generalize x1*y2+y1*x2=X at *
 generalize y1*y2-x1*x2=Y at *
 generalize x2*y3+y2*x3=V at *
 generalize y2*y3-x2*x3=W at *
 have aXY:Zp (xa*ya*((1+t)*(1-t))-X*Y):=zp_lin2 (ya*(1-t)) X ax ay (by grind)
 have bXY:Zp (xb*yb*((1+u)*(1-u))-V*W):=zp_lin2 (yb*(1-u)) V bx by' (by grind)
 have hL:Zp (yL*((1-t*t)-c*X*Y*x3*y3)-(Y*y3*(1+t)-X*x3*(1-t))):=
  zp_lin4 ((1+t)*(1-t)) (yL*c*x3*y3) (-(x3*(1-t))) (y3*(1+t)) ly aXY ax ay (by grind)
 have hR:Zp (yR*((1-u*u)-c*x1*y1*V*W)-(y1*W*(1+u)-x1*V*(1-u))):=
  zp_lin4 ((1+u)*(1-u)) (yR*c*x1*y1) (-(x1*(1-u))) (y1*(1+u)) ry bXY bx by' (by grind)
 have nL:¬Zp ((1-t*t)-c*X*Y*x3*y3):=fun h=>zp_ne_mul (zp_ne_mul d1 d2) f2 (zp_lin2 1 (-(c*x3*y3)) h aXY (by grind))
 have nR:¬Zp ((1-u*u)-c*x1*y1*V*W):=fun h=>zp_ne_mul (zp_ne_mul d3 d4) f4 (zp_lin2 1 (-(c*x1*y1)) h bXY (by grind))
 generalize (1-t*t)-c*X*Y*x3*y3=DL at *
 generalize (1-u*u)-c*x1*y1*V*W=DR at *
 generalize Y*y3*(1+t)-X*x3*(1-t)=NL at *
 generalize y1*W*(1+u)-x1*V*(1-u)=NR at *
 exact zp_cancel (zp_lin3 DR (-DL) 1 hL hR ky (by grind)) (zp_ne_mul nL nR)
section
variable {c : Int} (hc : NonSq c)
def EP.add (P Q:EP c):EP c where
 x:=((P.x*Q.y+P.y*Q.x)*iv (1+(c*P.x*Q.x*P.y*Q.y)))%prm
 y:=((P.y*Q.y-P.x*Q.x)*iv (1-(c*P.x*Q.x*P.y*Q.y)))%prm
 hx:=Int.emod_emod _ _
 hy:=Int.emod_emod _ _
 on:=ed_closed hc P.on Q.on (quot_spec (ed_plus hc P.on Q.on)) (quot_spec (ed_minus hc P.on Q.on))
theorem EP.add_x (P Q:EP c):Zp ((EP.add hc P Q).x*(1+(c*P.x*Q.x*P.y*Q.y))-(P.x*Q.y+P.y*Q.x)):=quot_spec (ed_plus hc P.on Q.on)
theorem EP.add_y (P Q:EP c):Zp ((EP.add hc P Q).y*(1-(c*P.x*Q.x*P.y*Q.y))-(P.y*Q.y-P.x*Q.x)):=quot_spec (ed_minus hc P.on Q.on)
theorem EP.add_is {P Q R:EP c} (h1:Zp (R.x*(1+(c*P.x*Q.x*P.y*Q.y))-(P.x*Q.y+P.y*Q.x))) (h2:Zp (R.y*(1-(c*P.x*Q.x*P.y*Q.y))-(P.y*Q.y-P.x*Q.x))):EP.add hc P Q=R:=by
 have a1:=EP.add_x hc P Q;have a2:=EP.add_y hc P Q
 refine EP.eq (zp_cancel (zp_lin2 1 (-1) a1 h1 ?_) (ed_plus hc P.on Q.on)) (zp_cancel (zp_lin2 1 (-1) a2 h2 ?_) (ed_minus hc P.on Q.on))<;>grind
theorem EP.add_comm (P Q:EP c):EP.add hc P Q=EP.add hc Q P:=
 EP.add_is hc (zp_lin1 1 (EP.add_x hc Q P) (by grind)) (zp_lin1 1 (EP.add_y hc Q P) (by grind))
def EP.zero:EP c:=⟨0,1,by decide,by decide,zp_lin1 0 zp_zero (by grind)⟩
theorem EP.add_zero (P:EP c):EP.add hc P EP.zero=P:=
 EP.add_is hc (zp_lin1 0 zp_zero (by simp only[EP.zero];grind)) (zp_lin1 0 zp_zero (by simp only[EP.zero];grind))
def EP.neg (P:EP c):EP c:=⟨(-P.x)%prm,P.y,Int.emod_emod _ _,P.hy,by
 have h:=zp_emod (-P.x);have o:=P.on
 generalize (-P.x)%prm=q at *
 exact zp_lin2 ((q-P.x)*(1-c*P.y*P.y)) 1 h o (by grind)⟩
theorem EP.neg_x (P:EP c):Zp ((EP.neg P).x+P.x):=zp_lin1 1 (zp_emod (-P.x)) (by simp only[EP.neg];grind)
theorem EP.neg_y (P:EP c):(EP.neg P).y=P.y:=rfl
theorem EP.add_neg (P:EP c):EP.add hc P (EP.neg P)=EP.zero:=by
 have h:=EP.neg_x P;have o:=P.on;have e:=EP.neg_y P;refine EP.add_is hc ?_ ?_
 ·simp only[EP.zero]
  rw[e]
  generalize (EP.neg P).x=q at *
  exact zp_lin1 (-P.y) h (by grind)
 ·simp only[EP.zero]
  rw[e]
  generalize (EP.neg P).x=q at *
  exact zp_lin2 (-(c*P.x*P.y*P.y)+P.x) (-1) h o (by grind)
theorem EP.add_assoc (P Q R:EP c):EP.add hc (EP.add hc P Q) R=EP.add hc P (EP.add hc Q R):=by
 have ax:=EP.add_x hc P Q;have ay:=EP.add_y hc P Q;have bx:=EP.add_x hc Q R
 have by':=EP.add_y hc Q R
 have lx:=EP.add_x hc (EP.add hc P Q) R;have ly:=EP.add_y hc (EP.add hc P Q) R;have rx:=EP.add_x hc P (EP.add hc Q R);have ry:=EP.add_y hc P (EP.add hc Q R);have d1:=ed_plus hc P.on Q.on;have d2:=ed_minus hc P.on Q.on;have d3:=ed_plus hc Q.on R.on;have d4:=ed_minus hc Q.on R.on;have f1:=ed_plus hc (EP.add hc P Q).on R.on;have f2:=ed_minus hc (EP.add hc P Q).on R.on;have f3:=ed_plus hc P.on (EP.add hc Q R).on;have f4:=ed_minus hc P.on (EP.add hc Q R).on;have kx:=ed_assoc_x P.on Q.on R.on;have ky:=ed_assoc_y P.on Q.on R.on
 apply EP.eq
 ·generalize (EP.add hc (EP.add hc P Q) R).x=xL at *
  generalize (EP.add hc P (EP.add hc Q R)).x=xR at *
  generalize (EP.add hc P Q).x=xa at *
  generalize (EP.add hc P Q).y=ya at *
  generalize (EP.add hc Q R).x=xb at *
  generalize (EP.add hc Q R).y=yb at *
  exact as_x ax ay bx by' lx rx d1 d2 d3 d4 f1 f3 kx
 ·generalize (EP.add hc (EP.add hc P Q) R).y=yL at *
  generalize (EP.add hc P (EP.add hc Q R)).y=yR at *
  generalize (EP.add hc P Q).x=xa at *
  generalize (EP.add hc P Q).y=ya at *
  generalize (EP.add hc Q R).x=xb at *
  generalize (EP.add hc Q R).y=yb at *
  exact as_y ax ay bx by' ly ry d1 d2 d3 d4 f2 f4 ky
def EP.mul:Nat→EP c→EP c
 |0,_=>EP.zero
 |n+1,P=>EP.add hc (EP.mul n P) P
theorem EP.mul_add (m n:Nat) (P:EP c):EP.mul hc (m+n) P=EP.add hc (EP.mul hc m P) (EP.mul hc n P):=by
 induction n with
 |zero=>exact(EP.add_zero hc _).symm
 |succ n ih=>rw[←Nat.add_assoc,EP.mul,EP.mul,ih,EP.add_assoc]
theorem EP.mul_mul (m n:Nat) (P:EP c):EP.mul hc m (EP.mul hc n P)=EP.mul hc (m*n) P:=by
 induction m with
 |zero=>rw[Nat.zero_mul];rfl
 |succ m ih=>rw[EP.mul,ih,Nat.succ_mul,EP.mul_add]
theorem EP.mul_one (P:EP c):EP.mul hc 1 P=P:=by
 rw[EP.mul,EP.mul,EP.add_comm,EP.add_zero]
theorem EP.mul_zero_pt (m:Nat):EP.mul hc m (EP.zero:EP c)=EP.zero:=by
 induction m with
 |zero=>rfl
 |succ m ih=>rw[EP.mul,ih,EP.add_zero]
theorem EP.back (P Q:EP c):EP.add hc (EP.add hc P Q) (EP.neg P)=Q:=by
 rw[EP.add_comm hc P Q,EP.add_assoc,EP.add_neg,EP.add_zero]
end
end Go.Proofs.YtdcpcdkbhgkmlaaDoor
namespace Go.Proofs.YtdcpcdkbhgkmlaaDoor
set_option maxRecDepth 100000
structure Rg where
 a:Int
 b:Int
 c:Int
 d:Int
def stp (x:Int) (s:Rg):Rg:=
 let e:=(s.a+s.b)%prm
 let f:=(s.a-s.b)%prm
 let g:=(s.c+s.d)%prm
 let h:=(s.c-s.d)%prm
 let y:=e*e%prm
 let z:=f*f%prm
 let r:=(y-z)%prm
 let m:=h*e%prm
 let n:=g*f%prm
 ⟨y*z%prm,r*((y+121665*r%prm)%prm)%prm,((m+n)%prm)*((m+n)%prm)%prm,x*(((m-n)%prm)*((m-n)%prm)%prm)%prm⟩
def trn (on:Bool) (s:Rg):Rg:=if on then⟨s.c,s.d,s.a,s.b⟩ else s
def rnd (x:Int) (on:Bool) (s:Rg):Rg:=trn on (stp x (trn on s))
def bt (S:Int) (t:Nat):Bool:=decide (S/2^t%2=1)
end Go.Proofs.YtdcpcdkbhgkmlaaDoor
namespace Go.Proofs.YtdcpcdkbhgkmlaaDoor
set_option maxRecDepth 100000
def Rep (s:Int) {c:Int} (P:EP c) (a b:Int):Prop:=¬(Zp a∧Zp b)∧Zp (a*(1-P.y)-s*b*(1+P.y))
theorem Rep.congr {s c:Int} {P:EP c} {a b a' b':Int} (h:Rep s P a b) (ha:Zp (a'-a)) (hb:Zp (b'-b)):Rep s P a' b':=by
 obtain⟨hn,hr⟩:=h
 refine⟨fun⟨q1,q2⟩=>hn ⟨zp_lin2 1 (-1) q1 ha (by grind),zp_lin2 1 (-1) q2 hb (by grind)⟩,?_⟩
 generalize P.y=y at *
 exact zp_lin3 1 (1-y) (-(s*(1+y))) hr ha hb (by grind)
def Mont (s c:Int):Prop:=(s=1∧Zp (121666*c-121665))∨(s= -1∧Zp (121665*c-121666))
theorem Mont.sq {s c:Int} (h:Mont s c):s*s=1:=by rcases h with⟨rfl,_⟩|⟨rfl,_⟩<;>decide
theorem n16:¬Zp 16:=by unfold Zp;decide
theorem n121666:¬Zp 121666:=by unfold Zp;decide
end Go.Proofs.YtdcpcdkbhgkmlaaDoor
namespace Go.Proofs.YtdcpcdkbhgkmlaaDoor
set_option maxRecDepth 100000
def Val {c:Int} (s:Int) (P:EP c) (r:Int):Prop:=(0≤r∧r<prm)∧(Zp (1-P.y)→r=0)∧(¬Zp (1-P.y)→Zp (r*(1-P.y)-s*(1+P.y)))
theorem Val.inj {s c:Int} {P:EP c} {r q:Int} (h:Val s P r) (g:Val s P q):r=q:=by
 by_cases e:Zp (1-P.y)
 ·rw[h.2.1 e,g.2.1 e]
 ·have h1:=h.2.2 e
  have h2:=g.2.2 e
  have:Zp (r-q):=zp_cancel (a:=1-P.y) (zp_lin2 1 (-1) h1 h2 (by grind)) e
  have:=zp_sub.1 this
  rwa [Int.emod_eq_of_lt h.1.1 h.1.2,Int.emod_eq_of_lt g.1.1 g.1.2] at this
end Go.Proofs.YtdcpcdkbhgkmlaaDoor
namespace Go.Proofs.YtdcpcdkbhgkmlaaDoor
set_option maxRecDepth 100000
def sA:Int:=9094040566125962849133224048217411091405536248825867518642941381412595940312
def ec1:Int:=20800338683988658368647408995589388737092878452977063003340006470870624536394
theorem sA_sq:Zp (sA*sA-486664):=by unfold Zp;decide+kernel
theorem ec1_eq:Zp (121666*ec1-121665):=by unfold Zp;decide+kernel
theorem half_486660:(486660:Int)^28948022309329048855892746252171976963317496166410141009864396001978282409974%prm= -1%prm:=by
 rw[pow_nat (m:=486660) (by decide)]
 have:pwf 256 57896044618658097711785492504343953926634992332820282019728792003956564819949 486660 28948022309329048855892746252171976963317496166410141009864396001978282409974=57896044618658097711785492504343953926634992332820282019728792003956564819948:=by decide+kernel
 rw[pwf_eq _ _ _ _ (by decide)] at this
 rw[this];decide
theorem rok_486660:rok 486660=false:=by
 cases h:rok 486660
 ·rfl
 ·rcases(rok_half 486660).1 h with q|q
  ·exact absurd q (by decide)
  ·rw[half_486660] at q;exact absurd q (by decide)
theorem nonsq_of {c:Int} (h:rok c=false):NonSq c:=fun r hr=>by
 have e:rok (r*r)=rok c:=rok_c (zp_sub.1 hr);rw[rok_sq,h] at e
 cases e
theorem nsq_A:NonSq 486660:=nonsq_of rok_486660
theorem nsq_1:NonSq ec1:=fun r hr=>by
 have h1:=sA_sq;have h2:=ec1_eq
 generalize sA=q at *
 generalize ec1=c at *
 exact nsq_A (r*q) (zp_lin3 (q*q) c 4 hr h1 h2 (by grind))
end Go.Proofs.YtdcpcdkbhgkmlaaDoor
namespace Go.Proofs.YtdcpcdkbhgkmlaaDoor
set_option maxRecDepth 100000
theorem q2:Pr 2:=trial 2 0 (by decide) (by decide+kernel) (by decide)
section
variable {c : Int} (hc : NonSq c)
theorem EP.mul_mod {P:EP c} {m n:Nat} (hm:EP.mul hc m P=EP.zero) (hn:EP.mul hc n P=EP.zero):EP.mul hc (n%m) P=EP.zero:=by
 have e:n=n/m*m+n%m:=by rw[Nat.mul_comm];exact(Nat.div_add_mod n m).symm
 rw[e,EP.mul_add,←EP.mul_mul,hm,EP.mul_zero_pt,EP.add_comm,EP.add_zero] at hn;exact hn
end
end Go.Proofs.YtdcpcdkbhgkmlaaDoor
