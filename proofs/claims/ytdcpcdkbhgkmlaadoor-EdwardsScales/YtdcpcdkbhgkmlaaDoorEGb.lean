import Derived.Test.YtdcpcdkbhgkmlaaDoorProg
import Derived.WalkKit
import Derived.WalkSpells
import Derived.WalkLawsBesides
import Derived.Lib.QuietBelow
import Derived.BigQuiet
import Derived.Test.YtdcpcdkbhgkmlaaDoorEKa
import Derived.Test.YtdcpcdkbhgkmlaaDoorEGa
import Derived.Test.YtdcpcdkbhgkmlaaDoorEFc
import Derived.Test.YtdcpcdkbhgkmlaaDoorERc
import Derived.Test.YtdcpcdkbhgkmlaaDoorEFe
namespace Go.Proofs.YtdcpcdkbhgkmlaaDoor
set_option maxRecDepth 100000
open Go.RowKit Go.Sort
attribute [local go_sem] setCell_drewN alloc_drewN
theorem valB_byt (m:Int) (h0:0≤m) (h1:m<115792089237316195423570985008687907853269984665640564039457584007913129639936):valB [byt (m) 0,byt (m) 1,byt (m) 2,byt (m) 3,byt (m) 4,byt (m) 5,byt (m) 6,byt (m) 7,byt (m) 8,byt (m) 9,byt (m) 10,byt (m) 11,byt (m) 12,byt (m) 13,byt (m) 14,byt (m) 15,byt (m) 16,byt (m) 17,byt (m) 18,byt (m) 19,byt (m) 20,byt (m) 21,byt (m) 22,byt (m) 23,byt (m) 24,byt (m) 25,byt (m) 26,byt (m) 27,byt (m) 28,byt (m) 29,byt (m) 30,byt (m) 31]=m:=by
 simp only[valB,byt,Int.pow_zero,Int.pow_succ,Int.one_mul,Int.ediv_one];omega
theorem byts_inj (m k:Int) (h0:0≤m) (h1:m<115792089237316195423570985008687907853269984665640564039457584007913129639936) (h2:0≤k) (h3:k<115792089237316195423570985008687907853269984665640564039457584007913129639936):([byt (m) 0,byt (m) 1,byt (m) 2,byt (m) 3,byt (m) 4,byt (m) 5,byt (m) 6,byt (m) 7,byt (m) 8,byt (m) 9,byt (m) 10,byt (m) 11,byt (m) 12,byt (m) 13,byt (m) 14,byt (m) 15,byt (m) 16,byt (m) 17,byt (m) 18,byt (m) 19,byt (m) 20,byt (m) 21,byt (m) 22,byt (m) 23,byt (m) 24,byt (m) 25,byt (m) 26,byt (m) 27,byt (m) 28,byt (m) 29,byt (m) 30,byt (m) 31]=[byt (k) 0,byt (k) 1,byt (k) 2,byt (k) 3,byt (k) 4,byt (k) 5,byt (k) 6,byt (k) 7,byt (k) 8,byt (k) 9,byt (k) 10,byt (k) 11,byt (k) 12,byt (k) 13,byt (k) 14,byt (k) 15,byt (k) 16,byt (k) 17,byt (k) 18,byt (k) 19,byt (k) 20,byt (k) 21,byt (k) 22,byt (k) 23,byt (k) 24,byt (k) 25,byt (k) 26,byt (k) 27,byt (k) 28,byt (k) 29,byt (k) 30,byt (k) 31])↔m=k:=by
 constructor
 ·intro h
  have e:=congrArg valB h
  rw[valB_byt m h0 h1,valB_byt k h2 h3] at e;exact e
 ·rintro rfl;rfl
theorem prm_bd (x:Int):0≤x%prm∧x%prm<115792089237316195423570985008687907853269984665640564039457584007913129639936:=by unfold prm;omega
theorem keys_eq (m k:Int) (h0:0≤m) (h1:m<115792089237316195423570985008687907853269984665640564039457584007913129639936) (h2:0≤k) (h3:k<115792089237316195423570985008687907853269984665640564039457584007913129639936) (W:World):(Op.equalIn 10000 23 (.agg #[.int .u8 (byt (m) 0),.int .u8 (byt (m) 1),.int .u8 (byt (m) 2),.int .u8 (byt (m) 3),.int .u8 (byt (m) 4),.int .u8 (byt (m) 5),.int .u8 (byt (m) 6),.int .u8 (byt (m) 7),.int .u8 (byt (m) 8),.int .u8 (byt (m) 9),.int .u8 (byt (m) 10),.int .u8 (byt (m) 11),.int .u8 (byt (m) 12),.int .u8 (byt (m) 13),.int .u8 (byt (m) 14),.int .u8 (byt (m) 15),.int .u8 (byt (m) 16),.int .u8 (byt (m) 17),.int .u8 (byt (m) 18),.int .u8 (byt (m) 19),.int .u8 (byt (m) 20),.int .u8 (byt (m) 21),.int .u8 (byt (m) 22),.int .u8 (byt (m) 23),.int .u8 (byt (m) 24),.int .u8 (byt (m) 25),.int .u8 (byt (m) 26),.int .u8 (byt (m) 27),.int .u8 (byt (m) 28),.int .u8 (byt (m) 29),.int .u8 (byt (m) 30),.int .u8 (byt (m) 31)]) (.agg #[.int .u8 (byt (k) 0),.int .u8 (byt (k) 1),.int .u8 (byt (k) 2),.int .u8 (byt (k) 3),.int .u8 (byt (k) 4),.int .u8 (byt (k) 5),.int .u8 (byt (k) 6),.int .u8 (byt (k) 7),.int .u8 (byt (k) 8),.int .u8 (byt (k) 9),.int .u8 (byt (k) 10),.int .u8 (byt (k) 11),.int .u8 (byt (k) 12),.int .u8 (byt (k) 13),.int .u8 (byt (k) 14),.int .u8 (byt (k) 15),.int .u8 (byt (k) 16),.int .u8 (byt (k) 17),.int .u8 (byt (k) 18),.int .u8 (byt (k) 19),.int .u8 (byt (k) 20),.int .u8 (byt (k) 21),.int .u8 (byt (k) 22),.int .u8 (byt (k) 23),.int .u8 (byt (k) 24),.int .u8 (byt (k) 25),.int .u8 (byt (k) 26),.int .u8 (byt (k) 27),.int .u8 (byt (k) 28),.int .u8 (byt (k) 29),.int .u8 (byt (k) 30),.int .u8 (byt (k) 31)])).run Tryd.prog W=.ok (decide (m=k)) W:=by
 rw[keys_equal]
 exact congrArg (fun b=>Result.ok b W) (decide_eq_decide.2 (byts_inj m k h0 h1 h2 h3))
set_option maxHeartbeats 1000000 in
theorem equal_any (a0 a1 a2 a3 a4 b0 b1 b2 b3 b4:Int) (la0:0≤a0) (ua0:a0<4503599627370496) (la1:0≤a1) (ua1:a1<4503599627370496) (la2:0≤a2) (ua2:a2<4503599627370496) (la3:0≤a3) (ua3:a3<4503599627370496) (la4:0≤a4) (ua4:a4<4503599627370496) (lb0:0≤b0) (ub0:b0<4503599627370496) (lb1:0≤b1) (ub1:b1<4503599627370496) (lb2:0≤b2) (ub2:b2<4503599627370496) (lb3:0≤b3) (ub3:b3<4503599627370496) (lb4:0≤b4) (ub4:b4<4503599627370496) (w:World):
 Calls Tryd.prog 105 #[.agg #[.int .u64 a0,.int .u64 a1,.int .u64 a2,.int .u64 a3,.int .u64 a4],.agg #[.int .u64 b0,.int .u64 b1,.int .u64 b2,.int .u64 b3,.int .u64 b4]] w fun e w'=>e=.returned (.bool (decide (v5 a0 a1 a2 a3 a4%prm=v5 b0 b1 b2 b3 b4%prm)))∧Below w.heap.size w w':=by
 have c1:=fun W=>bytes_any a0 a1 a2 a3 a4 la0 ua0 la1 ua1 la2 ua2 la3 ua3 la4 ua4 W
 have c2:=fun W=>bytes_any b0 b1 b2 b3 b4 lb0 ub0 lb1 ub1 lb2 ub2 lb3 ub3 lb4 ub4 W
 have m0:=prm_bd (v5 a0 a1 a2 a3 a4);have k0:=prm_bd (v5 b0 b1 b2 b3 b4)
 generalize v5 a0 a1 a2 a3 a4%prm=m at *
 generalize v5 b0 b1 b2 b3 b4%prm=k at *
 have heq:=fun W=>keys_eq m k m0.1 m0.2 k0.1 k0.2 W
 have C1:=hide c1;have C2:=hide c2;clear c1 c2 m0 k0 la0 ua0 la1 ua1 la2 ua2 la3 ua3 la4 ua4 lb0 ub0 lb1 ub1 lb2 ub2 lb3 ub3 lb4 ub4
 have h2:Hid (∀W,(∃p:Regrown,W=grow (redrawn ((w.alloc (.cells #[.int .u64 a0,.int .u64 a1,.int .u64 a2,.int .u64 a3,.int .u64 a4] 28)).alloc (.cells #[.int .u64 b0,.int .u64 b1,.int .u64 b2,.int .u64 b3,.int .u64 b4] 28)) p.d) p.os)→W.heap[w.heap.size]? =some (.cells #[.int .u64 a0,.int .u64 a1,.int .u64 a2,.int .u64 a3,.int .u64 a4] 28 (0,0))):=by
  rintro _ ⟨p,rfl⟩;exact((below_regrown _ p.d p.os).block _ (by simp;omega)).trans (hp2_0 w _ _)
 have h3:Hid (∀W,(∃p:Regrown,W=grow (redrawn ((w.alloc (.cells #[.int .u64 a0,.int .u64 a1,.int .u64 a2,.int .u64 a3,.int .u64 a4] 28)).alloc (.cells #[.int .u64 b0,.int .u64 b1,.int .u64 b2,.int .u64 b3,.int .u64 b4] 28)) p.d) p.os)→W.heap[w.heap.size+1]? =some (.cells #[.int .u64 b0,.int .u64 b1,.int .u64 b2,.int .u64 b3,.int .u64 b4] 28 (0,0))):=by
  rintro _ ⟨p,rfl⟩;exact((below_regrown _ p.d p.os).block _ (by simp)).trans (hp2_1 w _ _)
 go_enter Tryd.func105,Tryd.ntmps105
 go_wp2
 refine wp_region_quiet_below (by kernel_rfl) (by kernel_rfl) ?_
 refine wpQuiet_load_row rfl 28 _ rfl w.heap.size rfl 28 #[.int .u64 a0,.int .u64 a1,.int .u64 a2,.int .u64 a3,.int .u64 a4] (0,0) _ h2.out Tryd.underlying28 rfl (by kernel_rfl) ?_
 simp only[Act.put,ZPd,ZPe,ZPf];go_big_quiet_step (exact Calls.regrown_of (C1.out _))
 refine wpQuiet_load_row rfl 28 _ rfl (w.heap.size+1) rfl 28 #[.int .u64 b0,.int .u64 b1,.int .u64 b2,.int .u64 b3,.int .u64 b4] (0,0) _ h3.out Tryd.underlying28 rfl (by kernel_rfl) ?_
 simp only[Act.put,ZPd,ZPe,ZPf];go_big_quiet_step (exact Calls.regrown_of (C2.out _))
 repeat (go_big_quiet_step (fail))
 refine wpQuiet_nil ?_;rintro _ ⟨p,rfl⟩;have hb:=below_regrown ((w.alloc (.cells #[.int .u64 a0,.int .u64 a1,.int .u64 a2,.int .u64 a3,.int .u64 a4] 28)).alloc (.cells #[.int .u64 b0,.int .u64 b1,.int .u64 b2,.int .u64 b3,.int .u64 b4] 28)) p.d p.os
 generalize grow (redrawn ((w.alloc (.cells #[.int .u64 a0,.int .u64 a1,.int .u64 a2,.int .u64 a3,.int .u64 a4] 28)).alloc (.cells #[.int .u64 b0,.int .u64 b1,.int .u64 b2,.int .u64 b3,.int .u64 b4] 28)) p.d) p.os=W1 at *
 go_wp2
 go_ret
 exact⟨rfl,(((Below.refl _ _).alloc (Nat.le_refl _) _).alloc (by simp) _).trans (hb.mono (by simp;omega))⟩
set_option maxHeartbeats 1000000 in
theorem isZero_any (a0 a1 a2 a3 a4:Int) (la0:0≤a0) (ua0:a0<4503599627370496) (la1:0≤a1) (ua1:a1<4503599627370496) (la2:0≤a2) (ua2:a2<4503599627370496) (la3:0≤a3) (ua3:a3<4503599627370496) (la4:0≤a4) (ua4:a4<4503599627370496) (w:World):
 Calls Tryd.prog 62 #[.agg #[.int .u64 a0,.int .u64 a1,.int .u64 a2,.int .u64 a3,.int .u64 a4]] w fun e w'=>e=.returned (.bool (decide (v5 a0 a1 a2 a3 a4%prm=0)))∧Below w.heap.size w w':=by
 have c1:=fun W=>bytes_any a0 a1 a2 a3 a4 la0 ua0 la1 ua1 la2 ua2 la3 ua3 la4 ua4 W
 have m0:=prm_bd (v5 a0 a1 a2 a3 a4)
 generalize v5 a0 a1 a2 a3 a4%prm=m at *
 have hz:∀W,(Op.equalIn 10000 23 (.agg #[.int .u8 (byt (m) 0),.int .u8 (byt (m) 1),.int .u8 (byt (m) 2),.int .u8 (byt (m) 3),.int .u8 (byt (m) 4),.int .u8 (byt (m) 5),.int .u8 (byt (m) 6),.int .u8 (byt (m) 7),.int .u8 (byt (m) 8),.int .u8 (byt (m) 9),.int .u8 (byt (m) 10),.int .u8 (byt (m) 11),.int .u8 (byt (m) 12),.int .u8 (byt (m) 13),.int .u8 (byt (m) 14),.int .u8 (byt (m) 15),.int .u8 (byt (m) 16),.int .u8 (byt (m) 17),.int .u8 (byt (m) 18),.int .u8 (byt (m) 19),.int .u8 (byt (m) 20),.int .u8 (byt (m) 21),.int .u8 (byt (m) 22),.int .u8 (byt (m) 23),.int .u8 (byt (m) 24),.int .u8 (byt (m) 25),.int .u8 (byt (m) 26),.int .u8 (byt (m) 27),.int .u8 (byt (m) 28),.int .u8 (byt (m) 29),.int .u8 (byt (m) 30),.int .u8 (byt (m) 31)]) (.agg #[.int .u8 0,.int .u8 0,.int .u8 0,.int .u8 0,.int .u8 0,.int .u8 0,.int .u8 0,.int .u8 0,.int .u8 0,.int .u8 0,.int .u8 0,.int .u8 0,.int .u8 0,.int .u8 0,.int .u8 0,.int .u8 0,.int .u8 0,.int .u8 0,.int .u8 0,.int .u8 0,.int .u8 0,.int .u8 0,.int .u8 0,.int .u8 0,.int .u8 0,.int .u8 0,.int .u8 0,.int .u8 0,.int .u8 0,.int .u8 0,.int .u8 0,.int .u8 0])).run Tryd.prog W=.ok (decide (m=0)) W:=fun W=>by
  have:=keys_eq m 0 m0.1 m0.2 (by decide) (by decide) W
  simpa[byt] using this
 have C1:=hide c1;clear c1 m0 la0 ua0 la1 ua1 la2 ua2 la3 ua3 la4 ua4
 go_enter Tryd.func62,Tryd.ntmps62
 go_wp2_with (first|(refine wpList_load_row rfl 28 _ rfl w.heap.size rfl 28 #[.int .u64 a0,.int .u64 a1,.int .u64 a2,.int .u64 a3,.int .u64 a4] (0,0) _ (hp1_0 w _) Tryd.underlying28 rfl (by kernel_rfl) ?_)|fail)
 refine(C1.out _).mono ?_;rintro e w1 ⟨rfl,hb⟩
 go_wp2
 go_ret
 exact⟨rfl,((Below.refl _ _).alloc (Nat.le_refl _) _).trans (hb.mono (by simp))⟩
end Go.Proofs.YtdcpcdkbhgkmlaaDoor
namespace Go.Proofs.YtdcpcdkbhgkmlaaDoor
set_option maxRecDepth 100000
open Go.RowKit Go.Sort
attribute [local go_sem] setCell_drewN alloc_drewN
def gl (l:List Int) (i:Nat):Int:=l.getD i 0
structure Row8 (g:Nat→Int) (D:Array Value):Prop where
 cell:∀i,i<32→D[i]? =some (.int .u8 (g i))
theorem Row8.lit (b0 b1 b2 b3 b4 b5 b6 b7 b8 b9 b10 b11 b12 b13 b14 b15 b16 b17 b18 b19 b20 b21 b22 b23 b24 b25 b26 b27 b28 b29 b30 b31:Int):Row8 (gl [b0,b1,b2,b3,b4,b5,b6,b7,b8,b9,b10,b11,b12,b13,b14,b15,b16,b17,b18,b19,b20,b21,b22,b23,b24,b25,b26,b27,b28,b29,b30,b31]) #[.int .u8 b0,.int .u8 b1,.int .u8 b2,.int .u8 b3,.int .u8 b4,.int .u8 b5,.int .u8 b6,.int .u8 b7,.int .u8 b8,.int .u8 b9,.int .u8 b10,.int .u8 b11,.int .u8 b12,.int .u8 b13,.int .u8 b14,.int .u8 b15,.int .u8 b16,.int .u8 b17,.int .u8 b18,.int .u8 b19,.int .u8 b20,.int .u8 b21,.int .u8 b22,.int .u8 b23,.int .u8 b24,.int .u8 b25,.int .u8 b26,.int .u8 b27,.int .u8 b28,.int .u8 b29,.int .u8 b30,.int .u8 b31]:=by
 refine⟨fun i hi=>?_⟩
 rcases(by omega:i=0∨i=1∨i=2∨i=3∨i=4∨i=5∨i=6∨i=7∨i=8∨i=9∨i=10∨i=11∨i=12∨i=13∨i=14∨i=15∨i=16∨i=17∨i=18∨i=19∨i=20∨i=21∨i=22∨i=23∨i=24∨i=25∨i=26∨i=27∨i=28∨i=29∨i=30∨i=31) with rfl|rfl|rfl|rfl|rfl|rfl|rfl|rfl|rfl|rfl|rfl|rfl|rfl|rfl|rfl|rfl|rfl|rfl|rfl|rfl|rfl|rfl|rfl|rfl|rfl|rfl|rfl|rfl|rfl|rfl|rfl|rfl<;>rfl
end Go.Proofs.YtdcpcdkbhgkmlaaDoor
namespace Go.Proofs.YtdcpcdkbhgkmlaaDoor
set_option maxRecDepth 100000
open Go.RowKit Go.Sort
attribute [local go_sem] setCell_drewN alloc_drewN
end Go.Proofs.YtdcpcdkbhgkmlaaDoor
namespace Go.Proofs.YtdcpcdkbhgkmlaaDoor
set_option maxRecDepth 100000
open Go.RowKit Go.Sort
attribute [local go_sem] setCell_drewN alloc_drewN
def NumOf (r:Array Value) (x:Int):Prop:=∃a0 a1 a2 a3 a4:Int,r=#[.int .u64 a0,.int .u64 a1,.int .u64 a2,.int .u64 a3,.int .u64 a4]∧((0≤a0∧a0<4503599627370496)∧(0≤a1∧a1<4503599627370496)∧(0≤a2∧a2<4503599627370496)∧(0≤a3∧a3<4503599627370496)∧(0≤a4∧a4<4503599627370496))∧v5 a0 a1 a2 a3 a4%prm=x%prm
def KeyOf (r:Array Value) (N:Int):Prop:=∃k0 k1 k2 k3 k4 k5 k6 k7 k8 k9 k10 k11 k12 k13 k14 k15 k16 k17 k18 k19 k20 k21 k22 k23 k24 k25 k26 k27 k28 k29 k30 k31:Int,r=#[.int .u8 k0,.int .u8 k1,.int .u8 k2,.int .u8 k3,.int .u8 k4,.int .u8 k5,.int .u8 k6,.int .u8 k7,.int .u8 k8,.int .u8 k9,.int .u8 k10,.int .u8 k11,.int .u8 k12,.int .u8 k13,.int .u8 k14,.int .u8 k15,.int .u8 k16,.int .u8 k17,.int .u8 k18,.int .u8 k19,.int .u8 k20,.int .u8 k21,.int .u8 k22,.int .u8 k23,.int .u8 k24,.int .u8 k25,.int .u8 k26,.int .u8 k27,.int .u8 k28,.int .u8 k29,.int .u8 k30,.int .u8 k31]∧((0≤k0∧k0<256)∧(0≤k1∧k1<256)∧(0≤k2∧k2<256)∧(0≤k3∧k3<256)∧(0≤k4∧k4<256)∧(0≤k5∧k5<256)∧(0≤k6∧k6<256)∧(0≤k7∧k7<256)∧(0≤k8∧k8<256)∧(0≤k9∧k9<256)∧(0≤k10∧k10<256)∧(0≤k11∧k11<256)∧(0≤k12∧k12<256)∧(0≤k13∧k13<256)∧(0≤k14∧k14<256)∧(0≤k15∧k15<256)∧(0≤k16∧k16<256)∧(0≤k17∧k17<256)∧(0≤k18∧k18<256)∧(0≤k19∧k19<256)∧(0≤k20∧k20<256)∧(0≤k21∧k21<256)∧(0≤k22∧k22<256)∧(0≤k23∧k23<256)∧(0≤k24∧k24<256)∧(0≤k25∧k25<256)∧(0≤k26∧k26<256)∧(0≤k27∧k27<256)∧(0≤k28∧k28<256)∧(0≤k29∧k29<256)∧(0≤k30∧k30<256)∧(0≤k31∧k31<256))∧kv k0 k1 k2 k3 k4 k5 k6 k7 k8 k9 k10 k11 k12 k13 k14 k15 k16 k17 k18 k19 k20 k21 k22 k23 k24 k25 k26 k27 k28 k29 k30 k31=N
def kb (m:Int):Array Value:=#[.int .u8 (byt m 0),.int .u8 (byt m 1),.int .u8 (byt m 2),.int .u8 (byt m 3),.int .u8 (byt m 4),.int .u8 (byt m 5),.int .u8 (byt m 6),.int .u8 (byt m 7),.int .u8 (byt m 8),.int .u8 (byt m 9),.int .u8 (byt m 10),.int .u8 (byt m 11),.int .u8 (byt m 12),.int .u8 (byt m 13),.int .u8 (byt m 14),.int .u8 (byt m 15),.int .u8 (byt m 16),.int .u8 (byt m 17),.int .u8 (byt m 18),.int .u8 (byt m 19),.int .u8 (byt m 20),.int .u8 (byt m 21),.int .u8 (byt m 22),.int .u8 (byt m 23),.int .u8 (byt m 24),.int .u8 (byt m 25),.int .u8 (byt m 26),.int .u8 (byt m 27),.int .u8 (byt m 28),.int .u8 (byt m 29),.int .u8 (byt m 30),.int .u8 (byt m 31)]
def Gives (f:FuncId) (args:Array Value) (v:Value):Prop:=∀W,Calls Tryd.prog f args W fun e w'=>e=.returned v∧Below W.heap.size W w'
theorem Gives.at {f:FuncId} {args:Array Value} {v:Value} (h:Gives f args v) (W:World):Calls Tryd.prog f args W fun e w'=>e=.returned v∧Below W.heap.size W w':=h W
theorem Gives.re {f:FuncId} {args:Array Value} {v:Value} (h:Gives f args v) {w:World} {d:Nat} {os:Array Obj}:Calls Tryd.prog f args (grow (redrawn w d) os) fun e w''=>e=.returned v∧∃p:Regrown,w''=grow (redrawn w p.d) p.os:=Calls.regrown_of (h _)
theorem NumOf.congr {r:Array Value} {x y:Int} (h:NumOf r x) (e:x%prm=y%prm):NumOf r y:=by
 obtain⟨a0,a1,a2,a3,a4,rfl,⟨h0,h1,h2,h3,h4⟩,ha⟩:=h;exact⟨a0,a1,a2,a3,a4,rfl,⟨h0,h1,h2,h3,h4⟩,ha.trans e⟩
theorem NumOf.size {r:Array Value} {x:Int} (h:NumOf r x):r.size=5:=by
 obtain⟨a0,a1,a2,a3,a4,rfl,⟨h0,h1,h2,h3,h4⟩,ha⟩:=h;rfl
theorem KeyOf.size {r:Array Value} {x:Int} (h:KeyOf r x):r.size=32:=by
 obtain⟨k0,k1,k2,k3,k4,k5,k6,k7,k8,k9,k10,k11,k12,k13,k14,k15,k16,k17,k18,k19,k20,k21,k22,k23,k24,k25,k26,k27,k28,k29,k30,k31,rfl,_⟩:=h;rfl
theorem NumOf.one {r:Array Value} {x:Int} (h:NumOf r x):r.all (·.oneCell')=true:=by
 obtain⟨a0,a1,a2,a3,a4,rfl,⟨h0,h1,h2,h3,h4⟩,ha⟩:=h
 kernel_rfl
theorem KeyOf.one {r:Array Value} {x:Int} (h:KeyOf r x):r.all (·.oneCell')=true:=by
 obtain⟨k0,k1,k2,k3,k4,k5,k6,k7,k8,k9,k10,k11,k12,k13,k14,k15,k16,k17,k18,k19,k20,k21,k22,k23,k24,k25,k26,k27,k28,k29,k30,k31,rfl,_⟩:=h
 kernel_rfl
theorem NumOf.fits {r s:Array Value} {x:Int} (h:NumOf r x) (hs:s.size=5):s.size=r.size:=hs.trans h.size.symm
theorem num_info:(Tryd.prog.info? 28).map (·.size)=some 5:=by kernel_rfl
theorem key_info:(Tryd.prog.info? 23).map (·.size)=some 32:=by kernel_rfl
theorem NumOf.info {r:Array Value} {x:Int} (h:NumOf r x):(Tryd.prog.info? 28).map (·.size)=some r.size:=by rw[h.size];exact num_info
theorem KeyOf.info {r:Array Value} {x:Int} (h:KeyOf r x):(Tryd.prog.info? 23).map (·.size)=some r.size:=by rw[h.size];exact key_info
theorem kb_one (m:Int):(kb m).all (·.oneCell')=true:=by kernel_rfl
theorem kb_size (m:Int):(kb m).size=32:=rfl
theorem kb_info (m:Int):(Tryd.prog.info? 23).map (·.size)=some (kb m).size:=key_info
theorem kb_key (m:Int) (h0:0≤m) (h1:m<115792089237316195423570985008687907853269984665640564039457584007913129639936):KeyOf (kb m) m:=
 ⟨_,_,_,_,_,_,_,_,_,_,_,_,_,_,_,_,_,_,_,_,_,_,_,_,_,_,_,_,_,_,_,_,rfl,⟨byt_bd m 0,byt_bd m 1,byt_bd m 2,byt_bd m 3,byt_bd m 4,byt_bd m 5,byt_bd m 6,byt_bd m 7,byt_bd m 8,byt_bd m 9,byt_bd m 10,byt_bd m 11,byt_bd m 12,byt_bd m 13,byt_bd m 14,byt_bd m 15,byt_bd m 16,byt_bd m 17,byt_bd m 18,byt_bd m 19,byt_bd m 20,byt_bd m 21,byt_bd m 22,byt_bd m 23,byt_bd m 24,byt_bd m 25,byt_bd m 26,byt_bd m 27,byt_bd m 28,byt_bd m 29,byt_bd m 30,byt_bd m 31⟩,valB_byt m h0 h1⟩
theorem kb_mod (m:Int):KeyOf (kb (m%prm)) (m%prm):=kb_key _ (prm_bd m).1 (prm_bd m).2
theorem KeyOf.bd {r:Array Value} {N:Int} (h:KeyOf r N):0≤N∧N<115792089237316195423570985008687907853269984665640564039457584007913129639936:=by
 obtain⟨k0,k1,k2,k3,k4,k5,k6,k7,k8,k9,k10,k11,k12,k13,k14,k15,k16,k17,k18,k19,k20,k21,k22,k23,k24,k25,k26,k27,k28,k29,k30,k31,rfl,⟨h0,h1,h2,h3,h4,h5,h6,h7,h8,h9,h10,h11,h12,h13,h14,h15,h16,h17,h18,h19,h20,h21,h22,h23,h24,h25,h26,h27,h28,h29,h30,h31⟩,rfl⟩:=h;simp only[kv,valB];omega
theorem kb_equal (m n:Int) (h0:0≤m) (h1:m<115792089237316195423570985008687907853269984665640564039457584007913129639936) (h2:0≤n) (h3:n<115792089237316195423570985008687907853269984665640564039457584007913129639936) (W:World):(Op.equalIn 10000 23 (.agg (kb m)) (.agg (kb n))).run Tryd.prog W=.ok (decide (m=n)) W:=keys_eq m n h0 h1 h2 h3 W
theorem num_zero:NumOf #[.int .u64 0,.int .u64 0,.int .u64 0,.int .u64 0,.int .u64 0] 0:=⟨0,0,0,0,0,rfl,by decide,by decide⟩
theorem a_from {k:Array Value} {N:Int} (h:KeyOf k N):∃r,NumOf r (N%57896044618658097711785492504343953926634992332820282019728792003956564819968)∧Gives 30 #[.agg k] (.agg r):=by
 obtain⟨k0,k1,k2,k3,k4,k5,k6,k7,k8,k9,k10,k11,k12,k13,k14,k15,k16,k17,k18,k19,k20,k21,k22,k23,k24,k25,k26,k27,k28,k29,k30,k31,rfl,⟨h0,h1,h2,h3,h4,h5,h6,h7,h8,h9,h10,h11,h12,h13,h14,h15,h16,h17,h18,h19,h20,h21,h22,h23,h24,h25,h26,h27,h28,h29,h30,h31⟩,rfl⟩:=h
 refine⟨_,⟨_,_,_,_,_,rfl,?_,?_⟩,fun W=>from_any k0 k1 k2 k3 k4 k5 k6 k7 k8 k9 k10 k11 k12 k13 k14 k15 k16 k17 k18 k19 k20 k21 k22 k23 k24 k25 k26 k27 k28 k29 k30 k31 h0.1 h0.2 h1.1 h1.2 h2.1 h2.2 h3.1 h3.2 h4.1 h4.2 h5.1 h5.2 h6.1 h6.2 h7.1 h7.2 h8.1 h8.2 h9.1 h9.2 h10.1 h10.2 h11.1 h11.2 h12.1 h12.2 h13.1 h13.2 h14.1 h14.2 h15.1 h15.2 h16.1 h16.2 h17.1 h17.2 h18.1 h18.2 h19.1 h19.2 h20.1 h20.2 h21.1 h21.2 h22.1 h22.2 h23.1 h23.2 h24.1 h24.2 h25.1 h25.2 h26.1 h26.2 h27.1 h27.2 h28.1 h28.2 h29.1 h29.2 h30.1 h30.2 h31.1 h31.2 W⟩
 ·have q0:=lb_bd (kv k0 k1 k2 k3 k4 k5 k6 k7 k8 k9 k10 k11 k12 k13 k14 k15 k16 k17 k18 k19 k20 k21 k22 k23 k24 k25 k26 k27 k28 k29 k30 k31) 0;have q1:=lb_bd (kv k0 k1 k2 k3 k4 k5 k6 k7 k8 k9 k10 k11 k12 k13 k14 k15 k16 k17 k18 k19 k20 k21 k22 k23 k24 k25 k26 k27 k28 k29 k30 k31) 1;have q2:=lb_bd (kv k0 k1 k2 k3 k4 k5 k6 k7 k8 k9 k10 k11 k12 k13 k14 k15 k16 k17 k18 k19 k20 k21 k22 k23 k24 k25 k26 k27 k28 k29 k30 k31) 2;have q3:=lb_bd (kv k0 k1 k2 k3 k4 k5 k6 k7 k8 k9 k10 k11 k12 k13 k14 k15 k16 k17 k18 k19 k20 k21 k22 k23 k24 k25 k26 k27 k28 k29 k30 k31) 3;have q4:=lb_bd (kv k0 k1 k2 k3 k4 k5 k6 k7 k8 k9 k10 k11 k12 k13 k14 k15 k16 k17 k18 k19 k20 k21 k22 k23 k24 k25 k26 k27 k28 k29 k30 k31) 4
  omega
 ·rw[v5_lb_mod]
theorem a_bytes {r:Array Value} {x:Int} (h:NumOf r x):Gives 31 #[.agg r] (.agg (kb (x%prm))):=by
 obtain⟨a0,a1,a2,a3,a4,rfl,⟨h0,h1,h2,h3,h4⟩,ha⟩:=h;intro W;rw[←ha];exact bytes_any a0 a1 a2 a3 a4 h0.1 h0.2 h1.1 h1.2 h2.1 h2.2 h3.1 h3.2 h4.1 h4.2 W
theorem mm (c d x y:Int):(c*x)*(d*y)=(c*d)*(x*y):=by rw[Int.mul_assoc,Int.mul_left_comm x,←Int.mul_assoc]
theorem v5_flat (a0 a1 a2 a3 a4:Int):v5 a0 a1 a2 a3 a4=a0+2251799813685248*a1+5070602400912917605986812821504*a2+11417981541647679048466287755595961091061972992*a3+25711008708143844408671393477458601640355247900524685364822016*a4:=by unfold v5;omega
theorem mul5 (a0 a1 a2 a3 a4 b0 b1 b2 b3 b4:Int):v5 (a0*b0+(19*a1)*b4+(19*a2)*b3+(19*a3)*b2+(19*a4)*b1) (a0*b1+a1*b0+(19*a2)*b4+(19*a3)*b3+(19*a4)*b2) (a0*b2+a1*b1+a2*b0+(19*a3)*b4+(19*a4)*b3) (a0*b3+a1*b2+a2*b1+a3*b0+(19*a4)*b4) (a0*b4+a1*b3+a2*b2+a3*b1+a4*b0)=v5 a0 a1 a2 a3 a4*v5 b0 b1 b2 b3 b4-prm*(1*(a1*b4)+1*(a2*b3)+2251799813685248*(a2*b4)+1*(a3*b2)+2251799813685248*(a3*b3)+5070602400912917605986812821504*(a3*b4)+1*(a4*b1)+2251799813685248*(a4*b2)+5070602400912917605986812821504*(a4*b3)+11417981541647679048466287755595961091061972992*(a4*b4)):=by
 have e01:a0*(2251799813685248*b1)=2251799813685248*(a0*b1):=Int.mul_left_comm _ _ _;have e02:a0*(5070602400912917605986812821504*b2)=5070602400912917605986812821504*(a0*b2):=Int.mul_left_comm _ _ _;have e03:a0*(11417981541647679048466287755595961091061972992*b3)=11417981541647679048466287755595961091061972992*(a0*b3):=Int.mul_left_comm _ _ _;have e04:a0*(25711008708143844408671393477458601640355247900524685364822016*b4)=25711008708143844408671393477458601640355247900524685364822016*(a0*b4):=Int.mul_left_comm _ _ _;have e10:2251799813685248*a1*b0=2251799813685248*(a1*b0):=Int.mul_assoc _ _ _
 have e11:2251799813685248*a1*(2251799813685248*b1)=5070602400912917605986812821504*(a1*b1):=by rw[Int.mul_assoc,Int.mul_left_comm a1,←Int.mul_assoc];rfl
 have e12:2251799813685248*a1*(5070602400912917605986812821504*b2)=11417981541647679048466287755595961091061972992*(a1*b2):=by rw[Int.mul_assoc,Int.mul_left_comm a1,←Int.mul_assoc];rfl
 have e13:2251799813685248*a1*(11417981541647679048466287755595961091061972992*b3)=25711008708143844408671393477458601640355247900524685364822016*(a1*b3):=by rw[Int.mul_assoc,Int.mul_left_comm a1,←Int.mul_assoc];rfl
 have e14:2251799813685248*a1*(25711008708143844408671393477458601640355247900524685364822016*b4)=57896044618658097711785492504343953926634992332820282019728792003956564819968*(a1*b4):=by rw[Int.mul_assoc,Int.mul_left_comm a1,←Int.mul_assoc];rfl
 have e20:5070602400912917605986812821504*a2*b0=5070602400912917605986812821504*(a2*b0):=Int.mul_assoc _ _ _
 have e21:5070602400912917605986812821504*a2*(2251799813685248*b1)=11417981541647679048466287755595961091061972992*(a2*b1):=by rw[Int.mul_assoc,Int.mul_left_comm a2,←Int.mul_assoc];rfl
 have e22:5070602400912917605986812821504*a2*(5070602400912917605986812821504*b2)=25711008708143844408671393477458601640355247900524685364822016*(a2*b2):=by rw[Int.mul_assoc,Int.mul_left_comm a2,←Int.mul_assoc];rfl
 have e23:5070602400912917605986812821504*a2*(11417981541647679048466287755595961091061972992*b3)=57896044618658097711785492504343953926634992332820282019728792003956564819968*(a2*b3):=by rw[Int.mul_assoc,Int.mul_left_comm a2,←Int.mul_assoc];rfl
 have e24:5070602400912917605986812821504*a2*(25711008708143844408671393477458601640355247900524685364822016*b4)=130370302485407109521180524058200202307293977194619920040712988758680403184853549195737432064*(a2*b4):=by rw[Int.mul_assoc,Int.mul_left_comm a2,←Int.mul_assoc];rfl
 have e30:11417981541647679048466287755595961091061972992*a3*b0=11417981541647679048466287755595961091061972992*(a3*b0):=Int.mul_assoc _ _ _
 have e31:11417981541647679048466287755595961091061972992*a3*(2251799813685248*b1)=25711008708143844408671393477458601640355247900524685364822016*(a3*b1):=by rw[Int.mul_assoc,Int.mul_left_comm a3,←Int.mul_assoc];rfl
 have e32:11417981541647679048466287755595961091061972992*a3*(5070602400912917605986812821504*b2)=57896044618658097711785492504343953926634992332820282019728792003956564819968*(a3*b2):=by rw[Int.mul_assoc,Int.mul_left_comm a3,←Int.mul_assoc];rfl
 have e33:11417981541647679048466287755595961091061972992*a3*(11417981541647679048466287755595961091061972992*b3)=130370302485407109521180524058200202307293977194619920040712988758680403184853549195737432064*(a3*b3):=by rw[Int.mul_assoc,Int.mul_left_comm a3,←Int.mul_assoc];rfl
 have e34:11417981541647679048466287755595961091061972992*a3*(25711008708143844408671393477458601640355247900524685364822016*b4)=293567822846729153486185074598667128421960318613539983838411371441526128139326055432962374798096087878991872*(a3*b4):=by rw[Int.mul_assoc,Int.mul_left_comm a3,←Int.mul_assoc];rfl
 have e40:25711008708143844408671393477458601640355247900524685364822016*a4*b0=25711008708143844408671393477458601640355247900524685364822016*(a4*b0):=Int.mul_assoc _ _ _
 have e41:25711008708143844408671393477458601640355247900524685364822016*a4*(2251799813685248*b1)=57896044618658097711785492504343953926634992332820282019728792003956564819968*(a4*b1):=by rw[Int.mul_assoc,Int.mul_left_comm a4,←Int.mul_assoc];rfl
 have e42:25711008708143844408671393477458601640355247900524685364822016*a4*(5070602400912917605986812821504*b2)=130370302485407109521180524058200202307293977194619920040712988758680403184853549195737432064*(a4*b2):=by rw[Int.mul_assoc,Int.mul_left_comm a4,←Int.mul_assoc];rfl
 have e43:25711008708143844408671393477458601640355247900524685364822016*a4*(11417981541647679048466287755595961091061972992*b3)=293567822846729153486185074598667128421960318613539983838411371441526128139326055432962374798096087878991872*(a4*b3):=by rw[Int.mul_assoc,Int.mul_left_comm a4,←Int.mul_assoc];rfl
 have e44:25711008708143844408671393477458601640355247900524685364822016*a4*(25711008708143844408671393477458601640355247900524685364822016*b4)=661055968790248598951915308032771039828404682964281219284648795274405791236311345825189210439715284847591212025023358304256*(a4*b4):=by rw[Int.mul_assoc,Int.mul_left_comm a4,←Int.mul_assoc];rfl
 simp only[v5_flat,prm,Int.mul_add,Int.add_mul,e01,e02,e03,e04,e10,e11,e12,e13,e14,e20,e21,e22,e23,e24,e30,e31,e32,e33,e34,e40,e41,e42,e43,e44];simp only[Int.mul_assoc];omega
theorem sq5 (a0 a1 a2 a3 a4:Int):v5 (a0*a0+(2*a1)*(19*a4)+(2*a2)*(19*a3)) ((2*a0)*a1+(2*a2)*(19*a4)+a3*(19*a3)) ((2*a0)*a2+a1*a1+(2*a3)*(19*a4)) ((2*a0)*a3+(2*a1)*a2+a4*(19*a4)) ((2*a0)*a4+(2*a1)*a3+a2*a2)=v5 a0 a1 a2 a3 a4*v5 a0 a1 a2 a3 a4-prm*(1*(a1*a4)+1*(a2*a3)+2251799813685248*(a2*a4)+1*(a3*a2)+2251799813685248*(a3*a3)+5070602400912917605986812821504*(a3*a4)+1*(a4*a1)+2251799813685248*(a4*a2)+5070602400912917605986812821504*(a4*a3)+11417981541647679048466287755595961091061972992*(a4*a4)):=by
 have e01:a0*(2251799813685248*a1)=2251799813685248*(a0*a1):=Int.mul_left_comm _ _ _;have e02:a0*(5070602400912917605986812821504*a2)=5070602400912917605986812821504*(a0*a2):=Int.mul_left_comm _ _ _;have e03:a0*(11417981541647679048466287755595961091061972992*a3)=11417981541647679048466287755595961091061972992*(a0*a3):=Int.mul_left_comm _ _ _;have e04:a0*(25711008708143844408671393477458601640355247900524685364822016*a4)=25711008708143844408671393477458601640355247900524685364822016*(a0*a4):=Int.mul_left_comm _ _ _;have e10:2251799813685248*a1*a0=2251799813685248*(a1*a0):=Int.mul_assoc _ _ _
 have e11:2251799813685248*a1*(2251799813685248*a1)=5070602400912917605986812821504*(a1*a1):=by rw[Int.mul_assoc,Int.mul_left_comm a1,←Int.mul_assoc];rfl
 have e12:2251799813685248*a1*(5070602400912917605986812821504*a2)=11417981541647679048466287755595961091061972992*(a1*a2):=by rw[Int.mul_assoc,Int.mul_left_comm a1,←Int.mul_assoc];rfl
 have e13:2251799813685248*a1*(11417981541647679048466287755595961091061972992*a3)=25711008708143844408671393477458601640355247900524685364822016*(a1*a3):=by rw[Int.mul_assoc,Int.mul_left_comm a1,←Int.mul_assoc];rfl
 have e14:2251799813685248*a1*(25711008708143844408671393477458601640355247900524685364822016*a4)=57896044618658097711785492504343953926634992332820282019728792003956564819968*(a1*a4):=by rw[Int.mul_assoc,Int.mul_left_comm a1,←Int.mul_assoc];rfl
 have e20:5070602400912917605986812821504*a2*a0=5070602400912917605986812821504*(a2*a0):=Int.mul_assoc _ _ _
 have e21:5070602400912917605986812821504*a2*(2251799813685248*a1)=11417981541647679048466287755595961091061972992*(a2*a1):=by rw[Int.mul_assoc,Int.mul_left_comm a2,←Int.mul_assoc];rfl
 have e22:5070602400912917605986812821504*a2*(5070602400912917605986812821504*a2)=25711008708143844408671393477458601640355247900524685364822016*(a2*a2):=by rw[Int.mul_assoc,Int.mul_left_comm a2,←Int.mul_assoc];rfl
 have e23:5070602400912917605986812821504*a2*(11417981541647679048466287755595961091061972992*a3)=57896044618658097711785492504343953926634992332820282019728792003956564819968*(a2*a3):=by rw[Int.mul_assoc,Int.mul_left_comm a2,←Int.mul_assoc];rfl
 have e24:5070602400912917605986812821504*a2*(25711008708143844408671393477458601640355247900524685364822016*a4)=130370302485407109521180524058200202307293977194619920040712988758680403184853549195737432064*(a2*a4):=by rw[Int.mul_assoc,Int.mul_left_comm a2,←Int.mul_assoc];rfl
 have e30:11417981541647679048466287755595961091061972992*a3*a0=11417981541647679048466287755595961091061972992*(a3*a0):=Int.mul_assoc _ _ _
 have e31:11417981541647679048466287755595961091061972992*a3*(2251799813685248*a1)=25711008708143844408671393477458601640355247900524685364822016*(a3*a1):=by rw[Int.mul_assoc,Int.mul_left_comm a3,←Int.mul_assoc];rfl
 have e32:11417981541647679048466287755595961091061972992*a3*(5070602400912917605986812821504*a2)=57896044618658097711785492504343953926634992332820282019728792003956564819968*(a3*a2):=by rw[Int.mul_assoc,Int.mul_left_comm a3,←Int.mul_assoc];rfl
 have e33:11417981541647679048466287755595961091061972992*a3*(11417981541647679048466287755595961091061972992*a3)=130370302485407109521180524058200202307293977194619920040712988758680403184853549195737432064*(a3*a3):=by rw[Int.mul_assoc,Int.mul_left_comm a3,←Int.mul_assoc];rfl
 have e34:11417981541647679048466287755595961091061972992*a3*(25711008708143844408671393477458601640355247900524685364822016*a4)=293567822846729153486185074598667128421960318613539983838411371441526128139326055432962374798096087878991872*(a3*a4):=by rw[Int.mul_assoc,Int.mul_left_comm a3,←Int.mul_assoc];rfl
 have e40:25711008708143844408671393477458601640355247900524685364822016*a4*a0=25711008708143844408671393477458601640355247900524685364822016*(a4*a0):=Int.mul_assoc _ _ _
 have e41:25711008708143844408671393477458601640355247900524685364822016*a4*(2251799813685248*a1)=57896044618658097711785492504343953926634992332820282019728792003956564819968*(a4*a1):=by rw[Int.mul_assoc,Int.mul_left_comm a4,←Int.mul_assoc];rfl
 have e42:25711008708143844408671393477458601640355247900524685364822016*a4*(5070602400912917605986812821504*a2)=130370302485407109521180524058200202307293977194619920040712988758680403184853549195737432064*(a4*a2):=by rw[Int.mul_assoc,Int.mul_left_comm a4,←Int.mul_assoc];rfl
 have e43:25711008708143844408671393477458601640355247900524685364822016*a4*(11417981541647679048466287755595961091061972992*a3)=293567822846729153486185074598667128421960318613539983838411371441526128139326055432962374798096087878991872*(a4*a3):=by rw[Int.mul_assoc,Int.mul_left_comm a4,←Int.mul_assoc];rfl
 have e44:25711008708143844408671393477458601640355247900524685364822016*a4*(25711008708143844408671393477458601640355247900524685364822016*a4)=661055968790248598951915308032771039828404682964281219284648795274405791236311345825189210439715284847591212025023358304256*(a4*a4):=by rw[Int.mul_assoc,Int.mul_left_comm a4,←Int.mul_assoc];rfl
 simp only[v5_flat,prm,Int.mul_add,Int.add_mul,e01,e02,e03,e04,e10,e11,e12,e13,e14,e20,e21,e22,e23,e24,e30,e31,e32,e33,e34,e40,e41,e42,e43,e44];have c10:a1*a0=a0*a1:=Int.mul_comm _ _;have c20:a2*a0=a0*a2:=Int.mul_comm _ _;have c21:a2*a1=a1*a2:=Int.mul_comm _ _;have c30:a3*a0=a0*a3:=Int.mul_comm _ _;have c31:a3*a1=a1*a3:=Int.mul_comm _ _;have c32:a3*a2=a2*a3:=Int.mul_comm _ _;have c40:a4*a0=a0*a4:=Int.mul_comm _ _;have c41:a4*a1=a1*a4:=Int.mul_comm _ _;have c42:a4*a2=a2*a4:=Int.mul_comm _ _;have c43:a4*a3=a3*a4:=Int.mul_comm _ _;have:(2*a1)*(19*a4)=38*(a1*a4):=mm 2 19 _ _;have:(2*a2)*(19*a3)=38*(a2*a3):=mm 2 19 _ _;have:(2*a0)*a1=2*(a0*a1):=Int.mul_assoc _ _ _;have:(2*a2)*(19*a4)=38*(a2*a4):=mm 2 19 _ _;have:a3*(19*a3)=19*(a3*a3):=Int.mul_left_comm _ _ _;have:(2*a0)*a2=2*(a0*a2):=Int.mul_assoc _ _ _;have:(2*a3)*(19*a4)=38*(a3*a4):=mm 2 19 _ _;have:(2*a0)*a3=2*(a0*a3):=Int.mul_assoc _ _ _;have:(2*a1)*a2=2*(a1*a2):=Int.mul_assoc _ _ _;have:a4*(19*a4)=19*(a4*a4):=Int.mul_left_comm _ _ _;have:(2*a0)*a4=2*(a0*a4):=Int.mul_assoc _ _ _;have:(2*a1)*a3=2*(a1*a3):=Int.mul_assoc _ _ _;omega
theorem a_mul {r s:Array Value} {x y:Int} (h:NumOf r x) (g:NumOf s y):∃t,NumOf t (x*y)∧Gives 42 #[.agg r,.agg s] (.agg t):=by
 obtain⟨a0,a1,a2,a3,a4,rfl,⟨h0,h1,h2,h3,h4⟩,ha⟩:=h;obtain⟨b0,b1,b2,b3,b4,rfl,⟨g0,g1,g2,g3,g4⟩,hb⟩:=g
 refine⟨_,⟨_,_,_,_,_,rfl,jn_bd _ _ _ _ _ ?_ ?_ ?_ ?_ ?_ ?_ ?_ ?_ ?_ ?_,?_⟩,fun W=>mul_any a0 a1 a2 a3 a4 b0 b1 b2 b3 b4 h0.1 h0.2 h1.1 h1.2 h2.1 h2.2 h3.1 h3.2 h4.1 h4.2 g0.1 g0.2 g1.1 g1.2 g2.1 g2.2 g3.1 g3.2 g4.1 g4.2 W⟩
 rotate_right
 ·rw[jn_val,mul5,Int.sub_mul_emod_self_left,Int.mul_emod,ha,hb,←Int.mul_emod]
 all_goals (
  have q:=fun(x y:Int) (h1:0≤x) (h2:x<4503599627370496) (h3:0≤y) (h4:y<4503599627370496)=>mul_bd x y 4503599627370495 4503599627370495 h1 (by omega) h3 (by omega)
  have q00:=q a0 b0 h0.1 h0.2 g0.1 g0.2;have q01:=q a0 b1 h0.1 h0.2 g1.1 g1.2;have q02:=q a0 b2 h0.1 h0.2 g2.1 g2.2;have q03:=q a0 b3 h0.1 h0.2 g3.1 g3.2;have q04:=q a0 b4 h0.1 h0.2 g4.1 g4.2;have q10:=q a1 b0 h1.1 h1.2 g0.1 g0.2;have q11:=q a1 b1 h1.1 h1.2 g1.1 g1.2;have q12:=q a1 b2 h1.1 h1.2 g2.1 g2.2;have q13:=q a1 b3 h1.1 h1.2 g3.1 g3.2;have q14:=q a1 b4 h1.1 h1.2 g4.1 g4.2;have q20:=q a2 b0 h2.1 h2.2 g0.1 g0.2;have q21:=q a2 b1 h2.1 h2.2 g1.1 g1.2;have q22:=q a2 b2 h2.1 h2.2 g2.1 g2.2;have q23:=q a2 b3 h2.1 h2.2 g3.1 g3.2;have q24:=q a2 b4 h2.1 h2.2 g4.1 g4.2;have q30:=q a3 b0 h3.1 h3.2 g0.1 g0.2;have q31:=q a3 b1 h3.1 h3.2 g1.1 g1.2;have q32:=q a3 b2 h3.1 h3.2 g2.1 g2.2;have q33:=q a3 b3 h3.1 h3.2 g3.1 g3.2;have q34:=q a3 b4 h3.1 h3.2 g4.1 g4.2;have q40:=q a4 b0 h4.1 h4.2 g0.1 g0.2;have q41:=q a4 b1 h4.1 h4.2 g1.1 g1.2;have q42:=q a4 b2 h4.1 h4.2 g2.1 g2.2;have q43:=q a4 b3 h4.1 h4.2 g3.1 g3.2;have q44:=q a4 b4 h4.1 h4.2 g4.1 g4.2;clear ha hb
  try simp only[Int.mul_assoc]
  omega)
theorem a_square {r:Array Value} {x:Int} (h:NumOf r x):∃t,NumOf t (x*x)∧Gives 91 #[.agg r] (.agg t):=by
 obtain⟨a0,a1,a2,a3,a4,rfl,⟨h0,h1,h2,h3,h4⟩,ha⟩:=h
 refine⟨_,⟨_,_,_,_,_,rfl,jn_bd _ _ _ _ _ ?_ ?_ ?_ ?_ ?_ ?_ ?_ ?_ ?_ ?_,?_⟩,fun W=>square_any a0 a1 a2 a3 a4 h0.1 h0.2 h1.1 h1.2 h2.1 h2.2 h3.1 h3.2 h4.1 h4.2 W⟩
 rotate_right
 ·rw[jn_val,sq5,Int.sub_mul_emod_self_left,Int.mul_emod,ha,←Int.mul_emod]
 all_goals (
  have q:=fun(x y:Int) (h1:0≤x) (h2:x<4503599627370496) (h3:0≤y) (h4:y<4503599627370496)=>mul_bd x y 4503599627370495 4503599627370495 h1 (by omega) h3 (by omega)
  have q00:=q a0 a0 h0.1 h0.2 h0.1 h0.2;have q01:=q a0 a1 h0.1 h0.2 h1.1 h1.2;have q02:=q a0 a2 h0.1 h0.2 h2.1 h2.2;have q03:=q a0 a3 h0.1 h0.2 h3.1 h3.2;have q04:=q a0 a4 h0.1 h0.2 h4.1 h4.2;have q10:=q a1 a0 h1.1 h1.2 h0.1 h0.2;have q11:=q a1 a1 h1.1 h1.2 h1.1 h1.2;have q12:=q a1 a2 h1.1 h1.2 h2.1 h2.2;have q13:=q a1 a3 h1.1 h1.2 h3.1 h3.2;have q14:=q a1 a4 h1.1 h1.2 h4.1 h4.2;have q20:=q a2 a0 h2.1 h2.2 h0.1 h0.2;have q21:=q a2 a1 h2.1 h2.2 h1.1 h1.2;have q22:=q a2 a2 h2.1 h2.2 h2.1 h2.2;have q23:=q a2 a3 h2.1 h2.2 h3.1 h3.2;have q24:=q a2 a4 h2.1 h2.2 h4.1 h4.2;have q30:=q a3 a0 h3.1 h3.2 h0.1 h0.2;have q31:=q a3 a1 h3.1 h3.2 h1.1 h1.2;have q32:=q a3 a2 h3.1 h3.2 h2.1 h2.2;have q33:=q a3 a3 h3.1 h3.2 h3.1 h3.2;have q34:=q a3 a4 h3.1 h3.2 h4.1 h4.2;have q40:=q a4 a0 h4.1 h4.2 h0.1 h0.2;have q41:=q a4 a1 h4.1 h4.2 h1.1 h1.2;have q42:=q a4 a2 h4.1 h4.2 h2.1 h2.2;have q43:=q a4 a3 h4.1 h4.2 h3.1 h3.2;have q44:=q a4 a4 h4.1 h4.2 h4.1 h4.2;clear ha;have:(2*a1)*(19*a4)=38*(a1*a4):=mm 2 19 _ _;have:(2*a2)*(19*a3)=38*(a2*a3):=mm 2 19 _ _;have:(2*a0)*a1=2*(a0*a1):=Int.mul_assoc _ _ _;have:(2*a2)*(19*a4)=38*(a2*a4):=mm 2 19 _ _;have:a3*(19*a3)=19*(a3*a3):=Int.mul_left_comm _ _ _;have:(2*a0)*a2=2*(a0*a2):=Int.mul_assoc _ _ _;have:(2*a3)*(19*a4)=38*(a3*a4):=mm 2 19 _ _;have:(2*a0)*a3=2*(a0*a3):=Int.mul_assoc _ _ _;have:(2*a1)*a2=2*(a1*a2):=Int.mul_assoc _ _ _;have:a4*(19*a4)=19*(a4*a4):=Int.mul_left_comm _ _ _;have:(2*a0)*a4=2*(a0*a4):=Int.mul_assoc _ _ _;have:(2*a1)*a3=2*(a1*a3):=Int.mul_assoc _ _ _
  omega)
theorem a_times {r:Array Value} {x:Int} (h:NumOf r x) (m:Int) (l:0≤m) (u:m<4294967296):∃t,NumOf t (x*m)∧Gives 92 #[.agg r,.int .u32 m] (.agg t):=by
 obtain⟨a0,a1,a2,a3,a4,rfl,⟨h0,h1,h2,h3,h4⟩,ha⟩:=h
 refine⟨_,⟨_,_,_,_,_,rfl,jn_bd _ _ _ _ _ ?_ ?_ ?_ ?_ ?_ ?_ ?_ ?_ ?_ ?_,?_⟩,fun W=>times_any a0 a1 a2 a3 a4 m h0.1 h0.2 h1.1 h1.2 h2.1 h2.2 h3.1 h3.2 h4.1 h4.2 l u W⟩
 rotate_right
 ·have e:v5 (a0*m) (a1*m) (a2*m) (a3*m) (a4*m)=v5 a0 a1 a2 a3 a4*m:=by simp only[v5,Int.add_mul,Int.mul_assoc]
  rw[jn_val,e,Int.mul_emod,ha,←Int.mul_emod]
 all_goals (
  have p0:=mul_bd a0 m 4503599627370496 4294967296 h0.1 (Int.le_of_lt h0.2) l (Int.le_of_lt u);have p1:=mul_bd a1 m 4503599627370496 4294967296 h1.1 (Int.le_of_lt h1.2) l (Int.le_of_lt u);have p2:=mul_bd a2 m 4503599627370496 4294967296 h2.1 (Int.le_of_lt h2.2) l (Int.le_of_lt u);have p3:=mul_bd a3 m 4503599627370496 4294967296 h3.1 (Int.le_of_lt h3.2) l (Int.le_of_lt u);have p4:=mul_bd a4 m 4503599627370496 4294967296 h4.1 (Int.le_of_lt h4.2) l (Int.le_of_lt u)
  omega)
theorem a_small (x:Int) (l:0≤x) (u:x<18446744073709551616):∃t,NumOf t x∧Gives 72 #[.int .u64 x] (.agg t):=
 ⟨_,⟨_,_,_,_,_,rfl,by omega,by rw[small_val]⟩,fun W=>small_any x l u W⟩
theorem a_equal {r s:Array Value} {x y:Int} (h:NumOf r x) (g:NumOf s y):Gives 105 #[.agg r,.agg s] (.bool (decide (x%prm=y%prm))):=by
 obtain⟨a0,a1,a2,a3,a4,rfl,⟨h0,h1,h2,h3,h4⟩,ha⟩:=h;obtain⟨b0,b1,b2,b3,b4,rfl,⟨g0,g1,g2,g3,g4⟩,hb⟩:=g;intro W;rw[←ha,←hb];exact equal_any a0 a1 a2 a3 a4 b0 b1 b2 b3 b4 h0.1 h0.2 h1.1 h1.2 h2.1 h2.2 h3.1 h3.2 h4.1 h4.2 g0.1 g0.2 g1.1 g1.2 g2.1 g2.2 g3.1 g3.2 g4.1 g4.2 W
theorem a_isZero {r:Array Value} {x:Int} (h:NumOf r x):Gives 62 #[.agg r] (.bool (decide (x%prm=0))):=by
 obtain⟨a0,a1,a2,a3,a4,rfl,⟨h0,h1,h2,h3,h4⟩,ha⟩:=h;intro W;rw[←ha];exact isZero_any a0 a1 a2 a3 a4 h0.1 h0.2 h1.1 h1.2 h2.1 h2.2 h3.1 h3.2 h4.1 h4.2 W
end Go.Proofs.YtdcpcdkbhgkmlaaDoor
namespace Go.Proofs.YtdcpcdkbhgkmlaaDoor
set_option maxRecDepth 100000
open Go.RowKit Go.Sort
attribute [local go_sem] setCell_drewN alloc_drewN
theorem and1 (x:Int) (h0:0≤x) (h1:x<256):bits .and .u8 x 1=x%2:=by
 rw[u8_and x 1 h0 h1 (by decide) (by decide)]
 have e:(1:Int).toNat=1:=by decide
 rw[e,nat_mask1];omega
set_option maxHeartbeats 1000000 in
theorem odd_any (a0 a1 a2 a3 a4:Int) (la0:0≤a0) (ua0:a0<4503599627370496) (la1:0≤a1) (ua1:a1<4503599627370496) (la2:0≤a2) (ua2:a2<4503599627370496) (la3:0≤a3) (ua3:a3<4503599627370496) (la4:0≤a4) (ua4:a4<4503599627370496) (w:World):
 Calls Tryd.prog 43 #[.agg #[.int .u64 a0,.int .u64 a1,.int .u64 a2,.int .u64 a3,.int .u64 a4]] w fun e w'=>e=.returned (.bool (byt (v5 a0 a1 a2 a3 a4%prm) 0%2==1))∧Below w.heap.size w w':=by
 have c1:=fun W=>bytes_any a0 a1 a2 a3 a4 la0 ua0 la1 ua1 la2 ua2 la3 ua3 la4 ua4 W
 generalize v5 a0 a1 a2 a3 a4%prm=m at *
 have hi:∀W,(Instr.index 23 (.agg #[.int .u8 (byt (m) 0),.int .u8 (byt (m) 1),.int .u8 (byt (m) 2),.int .u8 (byt (m) 3),.int .u8 (byt (m) 4),.int .u8 (byt (m) 5),.int .u8 (byt (m) 6),.int .u8 (byt (m) 7),.int .u8 (byt (m) 8),.int .u8 (byt (m) 9),.int .u8 (byt (m) 10),.int .u8 (byt (m) 11),.int .u8 (byt (m) 12),.int .u8 (byt (m) 13),.int .u8 (byt (m) 14),.int .u8 (byt (m) 15),.int .u8 (byt (m) 16),.int .u8 (byt (m) 17),.int .u8 (byt (m) 18),.int .u8 (byt (m) 19),.int .u8 (byt (m) 20),.int .u8 (byt (m) 21),.int .u8 (byt (m) 22),.int .u8 (byt (m) 23),.int .u8 (byt (m) 24),.int .u8 (byt (m) 25),.int .u8 (byt (m) 26),.int .u8 (byt (m) 27),.int .u8 (byt (m) 28),.int .u8 (byt (m) 29),.int .u8 (byt (m) 30),.int .u8 (byt (m) 31)]) (.int .i64 0)).run Tryd.prog W=.ok (.int .u8 (byt m 0)) W:=fun W=>by kernel_rfl
 have ha:=and1 (byt m 0) (byt_bd m 0).1 (byt_bd m 0).2;have C1:=hide c1;clear c1 la0 ua0 la1 ua1 la2 ua2 la3 ua3 la4 ua4
 go_enter Tryd.func43,Tryd.ntmps43
 go_wp2_with (first|(refine wpList_load_row rfl 28 _ rfl w.heap.size rfl 28 #[.int .u64 a0,.int .u64 a1,.int .u64 a2,.int .u64 a3,.int .u64 a4] (0,0) _ (hp1_0 w _) Tryd.underlying28 rfl (by kernel_rfl) ?_)|fail)
 refine(C1.out _).mono ?_;rintro e w1 ⟨rfl,hb⟩
 go_wp2
 go_ret
 exact⟨rfl,((Below.refl _ _).alloc (Nat.le_refl _) _).trans (hb.mono (by simp))⟩
end Go.Proofs.YtdcpcdkbhgkmlaaDoor
namespace Go.Proofs.YtdcpcdkbhgkmlaaDoor
set_option maxRecDepth 100000
open Go.RowKit Go.Sort
attribute [local go_sem] setCell_drewN alloc_drewN
def Gives4 (f:FuncId) (args:Array Value) (v:Value):Prop:=∀W,Four W→Calls Tryd.prog f args W fun e w'=>e=.returned v∧Below W.heap.size W w'
theorem Gives4.at {f:FuncId} {args:Array Value} {v:Value} (h:Gives4 f args v) {W:World} (hW:Four W):Calls Tryd.prog f args W fun e w'=>e=.returned v∧Below W.heap.size W w':=h W hW
theorem Gives4.re {f:FuncId} {args:Array Value} {v:Value} (h:Gives4 f args v) {w:World} {d:Nat} {os:Array Obj} (hw:Four w):Calls Tryd.prog f args (grow (redrawn w d) os) fun e w''=>e=.returned v∧∃p:Regrown,w''=grow (redrawn w p.d) p.os:=Calls.regrown_of (h _ (hw.below (below_regrown w d os)))
theorem Four.alloc {w:World} (h:Four w) (o:Obj):Four (w.alloc o):=h.below ((Below.refl _ _).alloc (Nat.le_refl _) _)
theorem a_add {r s:Array Value} {x y:Int} (h:NumOf r x) (g:NumOf s y):∃t,NumOf t (x+y)∧Gives 73 #[.agg r,.agg s] (.agg t):=by
 obtain⟨a0,a1,a2,a3,a4,rfl,⟨h0,h1,h2,h3,h4⟩,ha⟩:=h;obtain⟨b0,b1,b2,b3,b4,rfl,⟨g0,g1,g2,g3,g4⟩,hb⟩:=g
 refine⟨_,⟨_,_,_,_,_,rfl,nr_bd _ ?_ ?_,?_⟩,fun W=>add_any a0 a1 a2 a3 a4 b0 b1 b2 b3 b4 h0.1 h0.2 h1.1 h1.2 h2.1 h2.2 h3.1 h3.2 h4.1 h4.2 g0.1 g0.2 g1.1 g1.2 g2.1 g2.2 g3.1 g3.2 g4.1 g4.2 W⟩
 rotate_right
 ·rw[nr_val,Int.add_emod,ha,hb,←Int.add_emod]
 all_goals (clear ha hb;simp only[v5];omega)
theorem a_sub {r s:Array Value} {x y:Int} (h:NumOf r x) (g:NumOf s y):∃t,NumOf t (x-y)∧Gives4 78 #[.agg r,.agg s] (.agg t):=by
 obtain⟨a0,a1,a2,a3,a4,rfl,⟨h0,h1,h2,h3,h4⟩,ha⟩:=h;obtain⟨b0,b1,b2,b3,b4,rfl,⟨g0,g1,g2,g3,g4⟩,hb⟩:=g
 refine⟨_,⟨_,_,_,_,_,rfl,nr_bd _ ?_ ?_,?_⟩,fun W hW=>sub_any a0 a1 a2 a3 a4 b0 b1 b2 b3 b4 h0.1 h0.2 h1.1 h1.2 h2.1 h2.2 h3.1 h3.2 h4.1 h4.2 g0.1 g0.2 g1.1 g1.2 g2.1 g2.2 g3.1 g3.2 g4.1 g4.2 W hW⟩
 rotate_right
 ·have e:v5 a0 a1 a2 a3 a4+231584178474632390847141970017375815706539969331281128078915168015826259279796-v5 b0 b1 b2 b3 b4=v5 a0 a1 a2 a3 a4-v5 b0 b1 b2 b3 b4-prm*(-4):=by unfold prm;omega
  rw[nr_val,e,Int.sub_mul_emod_self_left,Int.sub_emod,ha,hb,←Int.sub_emod]
 all_goals (clear ha hb;simp only[v5];omega)
theorem a_odd {r:Array Value} {x:Int} (h:NumOf r x):Gives 43 #[.agg r] (.bool (byt (x%prm) 0%2==1)):=by
 obtain⟨a0,a1,a2,a3,a4,rfl,⟨h0,h1,h2,h3,h4⟩,ha⟩:=h;intro W;rw[←ha];exact odd_any a0 a1 a2 a3 a4 h0.1 h0.2 h1.1 h1.2 h2.1 h2.2 h3.1 h3.2 h4.1 h4.2 W
set_option maxHeartbeats 1000000 in
theorem a_neg {r:Array Value} {x:Int} (h:NumOf r x):∃t,NumOf t (-x)∧Gives4 64 #[.agg r] (.agg t):=by
 obtain⟨t,ht,c⟩:=a_sub num_zero h
 refine⟨t,ht.congr (by rw[Int.zero_sub]),fun w hw=>?_⟩
 go_enter Tryd.func64,Tryd.ntmps64
 go_wp2_with (first|(refine wpList_load_row rfl 28 _ rfl w.heap.size rfl 28 r (0,0) _ (hp2_0 w _ _) Tryd.underlying28 rfl h.info ?_)|fail)
 refine(c.at ((hw.alloc _).alloc _)).mono ?_;rintro e w1 ⟨rfl,hb⟩
 have rZ:w1.heap[w.heap.size+1]? =some (.cells #[.int .u64 0,.int .u64 0,.int .u64 0,.int .u64 0,.int .u64 0] 28 (0,0)):=(hb.block _ (by simp)).trans (hp2_1 w _ _)
 have hbw:Below w.heap.size w w1:=(((Below.refl _ _).alloc (Nat.le_refl _) _).alloc (by simp) _).trans (hb.mono (by simp;omega))
 clear hb
 go_wp2_with (first|(refine wpList_store_row rfl 28 _ _ rfl (w.heap.size+1) t rfl rfl 28 _ rZ ht.info (ht.fits rfl) ht.one ?_)|fail)
 exact bodyPost_ret (v:=.agg t) (results_cell_row Tryd.results64 _ _ (w.heap.size+1) _ t _ _ rfl (setRow_heap _ _ _ _ _ _ rZ) Tryd.underlying28 rfl ht.info) rfl ⟨rfl,below_setRow hbw (by omega) _⟩
end Go.Proofs.YtdcpcdkbhgkmlaaDoor
namespace Go.Proofs.YtdcpcdkbhgkmlaaDoor
set_option maxRecDepth 100000
open Go.RowKit Go.Sort
attribute [local go_sem] setCell_drewN alloc_drewN
theorem Four.belowN {w w':World} {n:Nat} (h:Four w) (hn:3<n) (hb:Below n w w'):Four w':=by
 obtain⟨h0,k0,k1,k2,k3,k4⟩:=h;exact⟨Nat.lt_of_lt_of_le h0 hb.size,(hb.cell (p:=⟨3,0,none⟩) hn).trans k0,(hb.cell (p:=⟨3,1,none⟩) hn).trans k1,(hb.cell (p:=⟨3,2,none⟩) hn).trans k2,(hb.cell (p:=⟨3,3,none⟩) hn).trans k3,(hb.cell (p:=⟨3,4,none⟩) hn).trans k4⟩
theorem Four.setRow {w:World} {g:Nat} (h:Four w) (hg:3<g) (cs:Array Value):Four (w.setRow g cs):=
 h.belowN (n:=4) (by decide) (below_setRow (Below.refl _ _) hg cs)
end Go.Proofs.YtdcpcdkbhgkmlaaDoor
namespace Go.Proofs.YtdcpcdkbhgkmlaaDoor
set_option maxRecDepth 100000
open Go.RowKit Go.Sort
attribute [local go_sem] setCell_drewN alloc_drewN
theorem keep {w W:World} (hb:Below w.heap.size w W) {g:Nat} {o:Obj} (h:w.heap[g]? =some o):W.heap[g]? =some o:=
 (hb.block _ (Array.getElem?_eq_some_iff.1 h).1).trans h
theorem keepr {w:World} {g:Nat} {o:Obj} (h:w.heap[g]? =some o):Hid (∀W,(∃p:Regrown,W=grow (redrawn w p.d) p.os)→W.heap[g]? =some o):=by
 rintro _ ⟨p,rfl⟩;exact keep (below_regrown w p.d p.os) h
theorem lt_of_row {w:World} {g:Nat} {o:Obj} (h:w.heap[g]? =some o):g<w.heap.size:=(Array.getElem?_eq_some_iff.1 h).1
theorem Below.after {w w1 w2:World} (h:Below w.heap.size w w1) (hb:Below w1.heap.size w1 w2):Below w.heap.size w w2:=h.trans (hb.mono h.size)
theorem wpList_load_want {P:Program} {ops:Array Oper} {rest:List Oper} {o:Oper} {a:Act} {w:World} {Q:Exit→Act→World→Prop} (hw:Region.wanted o (yielded ops a.tmps)=true) (ty:TypeId) (x:Operand) (ho:o.op=.load ty x)
 (g:Nat) (hx:a.eval x=.pointer (some ⟨g,0,none⟩)) (t:TypeId) (cs:Array Value) (fr:Nat×Nat) (d:TypeDesc) (hg:w.heap[g]? =some (.cells cs t fr))
 (hu:P.underlying ty=some d) (hd:(match d with| .struct _| .array _ _=>true|_=>false)=true) (hi:(P.info? ty).map (·.size)=some cs.size)
 (h:wpList P ops Q rest (a.put o.dst (.agg cs)) w):wpList P ops Q (o::rest) a w:=
 BigFrame.wpList_want hw fun _ hK=>wp_load_row ty x ho g hx t cs fr d hg hu hd hi (hK _ _ h)
end Go.Proofs.YtdcpcdkbhgkmlaaDoor
namespace Go.Proofs.YtdcpcdkbhgkmlaaDoor
set_option maxRecDepth 100000
open Go.RowKit Go.Sort
attribute [local go_sem] setCell_drewN alloc_drewN
noncomputable def nextSq (r:Array Value):Array Value:=open Classical in if h:∃x,NumOf r x then Classical.choose (a_square (Classical.choose_spec h)) else r
theorem num_inj {r:Array Value} {x y:Int} (h:NumOf r x) (g:NumOf r y):x%prm=y%prm:=by
 obtain⟨a0,a1,a2,a3,a4,e,_,ha⟩:=h;obtain⟨b0,b1,b2,b3,b4,e',_,hb⟩:=g;rw[e] at e';simp only[Array.mk.injEq,List.cons.injEq,Value.int.injEq] at e';obtain⟨⟨_,rfl⟩,⟨_,rfl⟩,⟨_,rfl⟩,⟨_,rfl⟩,⟨_,rfl⟩,_⟩:=e';rw[←ha,←hb]
theorem nextSq_spec {r:Array Value} {x:Int} (h:NumOf r x):NumOf (nextSq r) (x*x)∧Gives 91 #[.agg r] (.agg (nextSq r)):=by
 have hx:∃x,NumOf r x:=⟨x,h⟩
 have e:nextSq r=Classical.choose (a_square (Classical.choose_spec hx)):=by unfold nextSq;exact dif_pos hx
 have sp:=Classical.choose_spec (a_square (Classical.choose_spec hx));rw[←e] at sp;refine⟨sp.1.congr ?_,sp.2⟩;have i:=num_inj (Classical.choose_spec hx) h;rw[Int.mul_emod,i,←Int.mul_emod]
noncomputable def sqs (r:Array Value):Nat→Array Value
 |0=>r
 |k+1=>nextSq (sqs r k)
theorem sqs_spec {r:Array Value} {x:Int} (h:NumOf r x):∀k,NumOf (sqs r k) (x^(2^k))
 |0=>by rw[Nat.pow_zero,Int.pow_succ,Int.pow_zero,Int.one_mul];exact h
 |k+1=>by
  have:=(nextSq_spec (sqs_spec h k)).1
  rw[←Int.pow_add,show 2^k+2^k=2^(k+1) by rw[Nat.pow_succ];omega] at this
  exact this
set_option maxHeartbeats 2000000 in
theorem a_squares {r:Array Value} {x:Int} (h:NumOf r x) (t:Nat) (ht:t<1000):∃s,NumOf s (x^(2^t))∧Gives 80 #[.agg r,.int .i64 t] (.agg s):=by
 refine⟨sqs r t,sqs_spec h t,fun w=>?_⟩
 go_enter Tryd.func80,Tryd.ntmps80
 go_wp2
 go_loopw [6] (fun i wr=>∃k:Nat,k≤t∧i=.int .i64 k∧wr.heap[w.heap.size]? =some (.cells (sqs r k) 28 (0,0))∧wr.heap[w.heap.size+1]? =some (.cells #[.int .u64 0,.int .u64 0,.int .u64 0,.int .u64 0,.int .u64 0] 28 (0,0))∧Below w.heap.size w wr) (fun i _=>t-(intOf i).toNat)
 case atStart=>exact⟨0,by omega,rfl,hp2_0 w _ _,hp2_1 w _ _,((Below.refl _ _).alloc (Nat.le_refl _) _).alloc (by simp) _⟩
 case round=>
  obtain⟨k,hk,rfl,r0,r1,hw⟩:=hrel;have hn:=sqs_spec h k
  by_cases hlt:k<t
  ·have hd:decide ((k:Int)<(t:Int))=true:=by simp;omega
   have hs:NumOf (sqs r (k+1)) _∧Gives 91 #[.agg (sqs r k)] (.agg (sqs r (k+1))):=nextSq_spec hn
   obtain⟨hs,c⟩:=hs
   go_wp2_with (first|(refine wpList_load_want rfl 28 _ rfl (w.heap.size) rfl 28 (sqs r k) (0,0) _ r0 Tryd.underlying28 rfl hn.info ?_)|fail)
   refine(c.at _).mono ?_;rintro e w1 ⟨rfl,hb⟩;replace r0:=keep hb r0;replace r1:=keep hb r1;replace hw:=Below.after hw hb;clear hb
   go_wp2_with (first|(refine wpList_store_row rfl 28 _ _ rfl (w.heap.size) (sqs r (k+1)) rfl rfl 28 _ r0 hs.info (hn.size.trans hs.size.symm) hs.one ?_)|fail)
   go_roundw
   case rel=>exact⟨k+1,by omega,by go_num,setRow_heap _ _ _ _ _ _ r0,(setRow_other _ _ _ _ (by omega)).trans r1,below_setRow hw (Nat.le_refl _) _⟩
   case measure=>simp[intOf];omega
  ·obtain rfl:k=t:=by omega
   have hd:decide ((k:Int)<(k:Int))=false:=by simp
   go_wp2_with (first|(refine wpList_load_want rfl 28 _ rfl (w.heap.size) rfl 28 (sqs r k) (0,0) _ r0 Tryd.underlying28 rfl hn.info ?_)|(refine wpList_store_row rfl 28 _ _ rfl (w.heap.size+1) (sqs r k) rfl rfl 28 _ r1 hn.info (hn.fits rfl) hn.one ?_)|fail)
   exact bodyPost_ret (v:=.agg (sqs r k)) (results_cell_row Tryd.results80 _ _ (w.heap.size+1) _ (sqs r k) _ _ rfl (setRow_heap _ _ _ _ _ _ r1) Tryd.underlying28 rfl hn.info) rfl ⟨rfl,below_setRow hw (by omega) _⟩
theorem p_squares {r:Array Value} {x:Int} {e:Nat} (h:NumOf r (x^e)) (t:Nat) (ht:t<1000) (k:Nat) (hk:k=e*2^t):∃s,NumOf s (x^k)∧Gives 80 #[.agg r,.int .i64 t] (.agg s):=by
 obtain⟨s,hs,c⟩:=a_squares h t ht;rw[←Int.pow_mul,←hk] at hs;exact⟨s,hs,c⟩
theorem p_square {r:Array Value} {x:Int} {e:Nat} (h:NumOf r (x^e)) (k:Nat) (hk:k=e+e):∃s,NumOf s (x^k)∧Gives 91 #[.agg r] (.agg s):=by
 obtain⟨s,hs,c⟩:=a_square h;rw[←Int.pow_add,←hk] at hs;exact⟨s,hs,c⟩
theorem p_mul {r s:Array Value} {x:Int} {e f:Nat} (h:NumOf r (x^e)) (g:NumOf s (x^f)) (k:Nat) (hk:k=e+f):∃t,NumOf t (x^k)∧Gives 42 #[.agg r,.agg s] (.agg t):=by
 obtain⟨s,hs,c⟩:=a_mul h g;rw[←Int.pow_add,←hk] at hs;exact⟨s,hs,c⟩
end Go.Proofs.YtdcpcdkbhgkmlaaDoor
