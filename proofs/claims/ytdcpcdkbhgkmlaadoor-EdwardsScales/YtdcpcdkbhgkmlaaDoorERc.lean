import Derived.Test.YtdcpcdkbhgkmlaaDoorProg
import Derived.WalkKit
import Derived.WalkSpells
import Derived.WalkLawsBesides
import Derived.Lib.QuietBelow
import Derived.BigQuiet
import Derived.Test.YtdcpcdkbhgkmlaaDoorEKa
import Derived.Test.YtdcpcdkbhgkmlaaDoorEMa
import Derived.Test.YtdcpcdkbhgkmlaaDoorERa
namespace Go.Proofs.YtdcpcdkbhgkmlaaDoor
set_option maxRecDepth 100000
open Go.RowKit Go.Sort
attribute [local go_sem] setCell_drewN alloc_drewN
theorem minus_dg (x0 x1 x2 x3 x4 x5 x6 x7 x8 x9 x10 x11 x12 x13 x14 x15 y0 y1 y2 y3 y4 y5 y6 y7 y8 y9 y10 y11 y12 y13 y14 y15:Int) (l0:0≤x0) (u0:x0<65536) (l1:0≤x1) (u1:x1<65536) (l2:0≤x2) (u2:x2<65536) (l3:0≤x3) (u3:x3<65536) (l4:0≤x4) (u4:x4<65536) (l5:0≤x5) (u5:x5<65536) (l6:0≤x6) (u6:x6<65536) (l7:0≤x7) (u7:x7<65536) (l8:0≤x8) (u8:x8<65536) (l9:0≤x9) (u9:x9<65536) (l10:0≤x10) (u10:x10<65536) (l11:0≤x11) (u11:x11<65536) (l12:0≤x12) (u12:x12<65536) (l13:0≤x13) (u13:x13<65536) (l14:0≤x14) (u14:x14<65536) (l15:0≤x15) (u15:x15<65536) (ly0:0≤y0) (uy0:y0<65536) (ly1:0≤y1) (uy1:y1<65536) (ly2:0≤y2) (uy2:y2<65536) (ly3:0≤y3) (uy3:y3<65536) (ly4:0≤y4) (uy4:y4<65536) (ly5:0≤y5) (uy5:y5<65536) (ly6:0≤y6) (uy6:y6<65536) (ly7:0≤y7) (uy7:y7<65536) (ly8:0≤y8) (uy8:y8<65536) (ly9:0≤y9) (uy9:y9<65536) (ly10:0≤y10) (uy10:y10<65536) (ly11:0≤y11) (uy11:y11<65536) (ly12:0≤y12) (uy12:y12<65536) (ly13:0≤y13) (uy13:y13<65536) (ly14:0≤y14) (uy14:y14<65536) (ly15:0≤y15) (uy15:y15<65536) (hle:v16 y0 y1 y2 y3 y4 y5 y6 y7 y8 y9 y10 y11 y12 y13 y14 y15≤v16 x0 x1 x2 x3 x4 x5 x6 x7 x8 x9 x10 x11 x12 x13 x14 x15) (w:World):
 Calls Tryd.prog 96 #[.agg #[.int .u64 x0,.int .u64 x1,.int .u64 x2,.int .u64 x3,.int .u64 x4,.int .u64 x5,.int .u64 x6,.int .u64 x7,.int .u64 x8,.int .u64 x9,.int .u64 x10,.int .u64 x11,.int .u64 x12,.int .u64 x13,.int .u64 x14,.int .u64 x15],.agg #[.int .u64 y0,.int .u64 y1,.int .u64 y2,.int .u64 y3,.int .u64 y4,.int .u64 y5,.int .u64 y6,.int .u64 y7,.int .u64 y8,.int .u64 y9,.int .u64 y10,.int .u64 y11,.int .u64 y12,.int .u64 y13,.int .u64 y14,.int .u64 y15]] w fun e w'=>e=.returned (.agg #[.int .u64 (dg (v16 x0 x1 x2 x3 x4 x5 x6 x7 x8 x9 x10 x11 x12 x13 x14 x15-v16 y0 y1 y2 y3 y4 y5 y6 y7 y8 y9 y10 y11 y12 y13 y14 y15) 0),.int .u64 (dg (v16 x0 x1 x2 x3 x4 x5 x6 x7 x8 x9 x10 x11 x12 x13 x14 x15-v16 y0 y1 y2 y3 y4 y5 y6 y7 y8 y9 y10 y11 y12 y13 y14 y15) 1),.int .u64 (dg (v16 x0 x1 x2 x3 x4 x5 x6 x7 x8 x9 x10 x11 x12 x13 x14 x15-v16 y0 y1 y2 y3 y4 y5 y6 y7 y8 y9 y10 y11 y12 y13 y14 y15) 2),.int .u64 (dg (v16 x0 x1 x2 x3 x4 x5 x6 x7 x8 x9 x10 x11 x12 x13 x14 x15-v16 y0 y1 y2 y3 y4 y5 y6 y7 y8 y9 y10 y11 y12 y13 y14 y15) 3),.int .u64 (dg (v16 x0 x1 x2 x3 x4 x5 x6 x7 x8 x9 x10 x11 x12 x13 x14 x15-v16 y0 y1 y2 y3 y4 y5 y6 y7 y8 y9 y10 y11 y12 y13 y14 y15) 4),.int .u64 (dg (v16 x0 x1 x2 x3 x4 x5 x6 x7 x8 x9 x10 x11 x12 x13 x14 x15-v16 y0 y1 y2 y3 y4 y5 y6 y7 y8 y9 y10 y11 y12 y13 y14 y15) 5),.int .u64 (dg (v16 x0 x1 x2 x3 x4 x5 x6 x7 x8 x9 x10 x11 x12 x13 x14 x15-v16 y0 y1 y2 y3 y4 y5 y6 y7 y8 y9 y10 y11 y12 y13 y14 y15) 6),.int .u64 (dg (v16 x0 x1 x2 x3 x4 x5 x6 x7 x8 x9 x10 x11 x12 x13 x14 x15-v16 y0 y1 y2 y3 y4 y5 y6 y7 y8 y9 y10 y11 y12 y13 y14 y15) 7),.int .u64 (dg (v16 x0 x1 x2 x3 x4 x5 x6 x7 x8 x9 x10 x11 x12 x13 x14 x15-v16 y0 y1 y2 y3 y4 y5 y6 y7 y8 y9 y10 y11 y12 y13 y14 y15) 8),.int .u64 (dg (v16 x0 x1 x2 x3 x4 x5 x6 x7 x8 x9 x10 x11 x12 x13 x14 x15-v16 y0 y1 y2 y3 y4 y5 y6 y7 y8 y9 y10 y11 y12 y13 y14 y15) 9),.int .u64 (dg (v16 x0 x1 x2 x3 x4 x5 x6 x7 x8 x9 x10 x11 x12 x13 x14 x15-v16 y0 y1 y2 y3 y4 y5 y6 y7 y8 y9 y10 y11 y12 y13 y14 y15) 10),.int .u64 (dg (v16 x0 x1 x2 x3 x4 x5 x6 x7 x8 x9 x10 x11 x12 x13 x14 x15-v16 y0 y1 y2 y3 y4 y5 y6 y7 y8 y9 y10 y11 y12 y13 y14 y15) 11),.int .u64 (dg (v16 x0 x1 x2 x3 x4 x5 x6 x7 x8 x9 x10 x11 x12 x13 x14 x15-v16 y0 y1 y2 y3 y4 y5 y6 y7 y8 y9 y10 y11 y12 y13 y14 y15) 12),.int .u64 (dg (v16 x0 x1 x2 x3 x4 x5 x6 x7 x8 x9 x10 x11 x12 x13 x14 x15-v16 y0 y1 y2 y3 y4 y5 y6 y7 y8 y9 y10 y11 y12 y13 y14 y15) 13),.int .u64 (dg (v16 x0 x1 x2 x3 x4 x5 x6 x7 x8 x9 x10 x11 x12 x13 x14 x15-v16 y0 y1 y2 y3 y4 y5 y6 y7 y8 y9 y10 y11 y12 y13 y14 y15) 14),.int .u64 (dg (v16 x0 x1 x2 x3 x4 x5 x6 x7 x8 x9 x10 x11 x12 x13 x14 x15-v16 y0 y1 y2 y3 y4 y5 y6 y7 y8 y9 y10 y11 y12 y13 y14 y15) 15)])∧Below w.heap.size w w':=by
 refine(minus_any x0 x1 x2 x3 x4 x5 x6 x7 x8 x9 x10 x11 x12 x13 x14 x15 y0 y1 y2 y3 y4 y5 y6 y7 y8 y9 y10 y11 y12 y13 y14 y15 l0 u0 l1 u1 l2 u2 l3 u3 l4 u4 l5 u5 l6 u6 l7 u7 l8 u8 l9 u9 l10 u10 l11 u11 l12 u12 l13 u13 l14 u14 l15 u15 ly0 uy0 ly1 uy1 ly2 uy2 ly3 uy3 ly4 uy4 ly5 uy5 ly6 uy6 ly7 uy7 ly8 uy8 ly9 uy9 ly10 uy10 ly11 uy11 ly12 uy12 ly13 uy13 ly14 uy14 ly15 uy15 w).mono ?_;rintro e w' ⟨e0,e1,e2,e3,e4,e5,e6,e7,e8,e9,e10,e11,e12,e13,e14,e15,c,rfl,hb,⟨⟨le0,ue0⟩,⟨le1,ue1⟩,⟨le2,ue2⟩,⟨le3,ue3⟩,⟨le4,ue4⟩,⟨le5,ue5⟩,⟨le6,ue6⟩,⟨le7,ue7⟩,⟨le8,ue8⟩,⟨le9,ue9⟩,⟨le10,ue10⟩,⟨le11,ue11⟩,⟨le12,ue12⟩,⟨le13,ue13⟩,⟨le14,ue14⟩,⟨le15,ue15⟩,lc,uc⟩,hv⟩
 have hm:∀d∈[e0,e1,e2,e3,e4,e5,e6,e7,e8,e9,e10,e11,e12,e13,e14,e15],0≤d∧d<65536:=(by intro d hd;simp only[List.mem_cons,List.not_mem_nil,or_false] at hd;rcases hd with rfl|rfl|rfl|rfl|rfl|rfl|rfl|rfl|rfl|rfl|rfl|rfl|rfl|rfl|rfl|rfl<;>constructor<;>assumption)
 have hbd:=v16_bd _ _ _ _ _ _ _ _ _ _ _ _ _ _ _ _ hm
 have hby:=v16_bd _ _ _ _ _ _ _ _ _ _ _ _ _ _ _ _ (show∀d∈[x0,x1,x2,x3,x4,x5,x6,x7,x8,x9,x10,x11,x12,x13,x14,x15],0≤d∧d<65536 from(by intro d hd;simp only[List.mem_cons,List.not_mem_nil,or_false] at hd;rcases hd with rfl|rfl|rfl|rfl|rfl|rfl|rfl|rfl|rfl|rfl|rfl|rfl|rfl|rfl|rfl|rfl<;>constructor<;>assumption))
 have hbz:=v16_bd _ _ _ _ _ _ _ _ _ _ _ _ _ _ _ _ (show∀d∈[y0,y1,y2,y3,y4,y5,y6,y7,y8,y9,y10,y11,y12,y13,y14,y15],0≤d∧d<65536 from(by intro d hd;simp only[List.mem_cons,List.not_mem_nil,or_false] at hd;rcases hd with rfl|rfl|rfl|rfl|rfl|rfl|rfl|rfl|rfl|rfl|rfl|rfl|rfl|rfl|rfl|rfl<;>constructor<;>assumption))
 have hX:v16 x0 x1 x2 x3 x4 x5 x6 x7 x8 x9 x10 x11 x12 x13 x14 x15-v16 y0 y1 y2 y3 y4 y5 y6 y7 y8 y9 y10 y11 y12 y13 y14 y15=v16 e0 e1 e2 e3 e4 e5 e6 e7 e8 e9 e10 e11 e12 e13 e14 e15:=by
  generalize v16 e0 e1 e2 e3 e4 e5 e6 e7 e8 e9 e10 e11 e12 e13 e14 e15=A at *
  generalize v16 x0 x1 x2 x3 x4 x5 x6 x7 x8 x9 x10 x11 x12 x13 x14 x15=B at *
  generalize v16 y0 y1 y2 y3 y4 y5 y6 y7 y8 y9 y10 y11 y12 y13 y14 y15=C at *
  omega
 obtain⟨q0,q1,q2,q3,q4,q5,q6,q7,q8,q9,q10,q11,q12,q13,q14,q15⟩:=dg_v16 _ _ _ _ _ _ _ _ _ _ _ _ _ _ _ _ hm;rw[hX,q0,q1,q2,q3,q4,q5,q6,q7,q8,q9,q10,q11,q12,q13,q14,q15];exact⟨rfl,hb⟩
set_option maxHeartbeats 4000000 in
theorem settle_any (d0 d1 d2 d3 d4 d5 d6 d7 d8 d9 d10 d11 d12 d13 d14 d15:Int) (lo0:0≤d0) (hi0:d0≤1125899906842624) (lo1:0≤d1) (hi1:d1≤1125899906842624) (lo2:0≤d2) (hi2:d2≤1125899906842624) (lo3:0≤d3) (hi3:d3≤1125899906842624) (lo4:0≤d4) (hi4:d4≤1125899906842624) (lo5:0≤d5) (hi5:d5≤1125899906842624) (lo6:0≤d6) (hi6:d6≤1125899906842624) (lo7:0≤d7) (hi7:d7≤1125899906842624) (lo8:0≤d8) (hi8:d8≤1125899906842624) (lo9:0≤d9) (hi9:d9≤1125899906842624) (lo10:0≤d10) (hi10:d10≤1125899906842624) (lo11:0≤d11) (hi11:d11≤1125899906842624) (lo12:0≤d12) (hi12:d12≤1125899906842624) (lo13:0≤d13) (hi13:d13≤1125899906842624) (lo14:0≤d14) (hi14:d14≤1125899906842624) (lo15:0≤d15) (hi15:d15≤1125899906842624) (w:World):
 Calls Tryd.prog 65 #[.agg #[.int .u64 d0,.int .u64 d1,.int .u64 d2,.int .u64 d3,.int .u64 d4,.int .u64 d5,.int .u64 d6,.int .u64 d7,.int .u64 d8,.int .u64 d9,.int .u64 d10,.int .u64 d11,.int .u64 d12,.int .u64 d13,.int .u64 d14,.int .u64 d15]] w fun e w'=>e=.returned (.agg #[.int .u64 (dg (v16 d0 d1 d2 d3 d4 d5 d6 d7 d8 d9 d10 d11 d12 d13 d14 d15%prm) 0),.int .u64 (dg (v16 d0 d1 d2 d3 d4 d5 d6 d7 d8 d9 d10 d11 d12 d13 d14 d15%prm) 1),.int .u64 (dg (v16 d0 d1 d2 d3 d4 d5 d6 d7 d8 d9 d10 d11 d12 d13 d14 d15%prm) 2),.int .u64 (dg (v16 d0 d1 d2 d3 d4 d5 d6 d7 d8 d9 d10 d11 d12 d13 d14 d15%prm) 3),.int .u64 (dg (v16 d0 d1 d2 d3 d4 d5 d6 d7 d8 d9 d10 d11 d12 d13 d14 d15%prm) 4),.int .u64 (dg (v16 d0 d1 d2 d3 d4 d5 d6 d7 d8 d9 d10 d11 d12 d13 d14 d15%prm) 5),.int .u64 (dg (v16 d0 d1 d2 d3 d4 d5 d6 d7 d8 d9 d10 d11 d12 d13 d14 d15%prm) 6),.int .u64 (dg (v16 d0 d1 d2 d3 d4 d5 d6 d7 d8 d9 d10 d11 d12 d13 d14 d15%prm) 7),.int .u64 (dg (v16 d0 d1 d2 d3 d4 d5 d6 d7 d8 d9 d10 d11 d12 d13 d14 d15%prm) 8),.int .u64 (dg (v16 d0 d1 d2 d3 d4 d5 d6 d7 d8 d9 d10 d11 d12 d13 d14 d15%prm) 9),.int .u64 (dg (v16 d0 d1 d2 d3 d4 d5 d6 d7 d8 d9 d10 d11 d12 d13 d14 d15%prm) 10),.int .u64 (dg (v16 d0 d1 d2 d3 d4 d5 d6 d7 d8 d9 d10 d11 d12 d13 d14 d15%prm) 11),.int .u64 (dg (v16 d0 d1 d2 d3 d4 d5 d6 d7 d8 d9 d10 d11 d12 d13 d14 d15%prm) 12),.int .u64 (dg (v16 d0 d1 d2 d3 d4 d5 d6 d7 d8 d9 d10 d11 d12 d13 d14 d15%prm) 13),.int .u64 (dg (v16 d0 d1 d2 d3 d4 d5 d6 d7 d8 d9 d10 d11 d12 d13 d14 d15%prm) 14),.int .u64 (dg (v16 d0 d1 d2 d3 d4 d5 d6 d7 d8 d9 d10 d11 d12 d13 d14 d15%prm) 15)])∧Below w.heap.size w w':=by
 generalize hN:v16 d0 d1 d2 d3 d4 d5 d6 d7 d8 d9 d10 d11 d12 d13 d14 d15=N;have HN:Hid (v16 d0 d1 d2 d3 d4 d5 d6 d7 d8 d9 d10 d11 d12 d13 d14 d15=N):=hN;clear hN
 have HNb:Hid (0≤N∧N≤1989323510513129302046236010170218017325036105421427022219231999999999999999999999999999999999):=by
  have:=HN.out;unfold Hid;rw[←this];simp only[v16,valL];omega
 go_enter Tryd.func65,Tryd.ntmps65
 go_wp2
 go_loopw [3] (fun i wr=>∃k:Nat,k≤3∧i=.int .i64 k∧∃d0 d1 d2 d3 d4 d5 d6 d7 d8 d9 d10 d11 d12 d13 d14 d15:Int,wr.heap[w.heap.size]? =some (.cells #[.int .u64 d0,.int .u64 d1,.int .u64 d2,.int .u64 d3,.int .u64 d4,.int .u64 d5,.int .u64 d6,.int .u64 d7,.int .u64 d8,.int .u64 d9,.int .u64 d10,.int .u64 d11,.int .u64 d12,.int .u64 d13,.int .u64 d14,.int .u64 d15] 34 (0,0))∧(∃Z:Array Value,wr.heap[w.heap.size+1]? =some (.cells Z 36 (0,0))∧Z.size=16)∧Below w.heap.size w wr∧w.heap.size+2≤wr.heap.size∧((0≤d0∧d0≤1125899906842624)∧(0≤d1∧d1≤1125899906842624)∧(0≤d2∧d2≤1125899906842624)∧(0≤d3∧d3≤1125899906842624)∧(0≤d4∧d4≤1125899906842624)∧(0≤d5∧d5≤1125899906842624)∧(0≤d6∧d6≤1125899906842624)∧(0≤d7∧d7≤1125899906842624)∧(0≤d8∧d8≤1125899906842624)∧(0≤d9∧d9≤1125899906842624)∧(0≤d10∧d10≤1125899906842624)∧(0≤d11∧d11≤1125899906842624)∧(0≤d12∧d12≤1125899906842624)∧(0≤d13∧d13≤1125899906842624)∧(0≤d14∧d14≤1125899906842624)∧(0≤d15∧d15≤1125899906842624))∧Hid (v16 d0 d1 d2 d3 d4 d5 d6 d7 d8 d9 d10 d11 d12 d13 d14 d15=foldK k N)) (fun i _=>3-(intOf i).toNat)
 case atStart=>exact⟨0,by omega,rfl,d0,d1,d2,d3,d4,d5,d6,d7,d8,d9,d10,d11,d12,d13,d14,d15,hp2_0 _ _ _,⟨_,hp2_1 _ _ _,rfl⟩,((Below.refl _ _).alloc (Nat.le_refl _) _).alloc (by simp) _,by simp,⟨⟨lo0,hi0⟩,⟨lo1,hi1⟩,⟨lo2,hi2⟩,⟨lo3,hi3⟩,⟨lo4,hi4⟩,⟨lo5,hi5⟩,⟨lo6,hi6⟩,⟨lo7,hi7⟩,⟨lo8,hi8⟩,⟨lo9,hi9⟩,⟨lo10,hi10⟩,⟨lo11,hi11⟩,⟨lo12,hi12⟩,⟨lo13,hi13⟩,⟨lo14,hi14⟩,⟨lo15,hi15⟩⟩,HN⟩
 case round=>
  clear lo0 hi0 lo1 hi1 lo2 hi2 lo3 hi3 lo4 hi4 lo5 hi5 lo6 hi6 lo7 hi7 lo8 hi8 lo9 hi9 lo10 hi10 lo11 hi11 lo12 hi12 lo13 hi13 lo14 hi14 lo15 hi15 HN;obtain⟨k,hk,rfl,a0,a1,a2,a3,a4,a5,a6,a7,a8,a9,a10,a11,a12,a13,a14,a15,hrow,⟨Z,hZ,hZs⟩,hbel,hsz,⟨⟨lo0,hi0⟩,⟨lo1,hi1⟩,⟨lo2,hi2⟩,⟨lo3,hi3⟩,⟨lo4,hi4⟩,⟨lo5,hi5⟩,⟨lo6,hi6⟩,⟨lo7,hi7⟩,⟨lo8,hi8⟩,⟨lo9,hi9⟩,⟨lo10,hi10⟩,⟨lo11,hi11⟩,⟨lo12,hi12⟩,⟨lo13,hi13⟩,⟨lo14,hi14⟩,⟨lo15,hi15⟩⟩,HV⟩:=hrel
  by_cases hlt:k<3
  ·go_wp2_with (first|(refine wpList_load_row rfl 34 _ rfl w.heap.size rfl 34 _ (0,0) _ hrow Tryd.underlying34 rfl (by kernel_rfl) ?_)|(go_at_call 94;refine(carried_any a0 a1 a2 a3 a4 a5 a6 a7 a8 a9 a10 a11 a12 a13 a14 a15 lo0 hi0 lo1 hi1 lo2 hi2 lo3 hi3 lo4 hi4 lo5 hi5 lo6 hi6 lo7 hi7 lo8 hi8 lo9 hi9 lo10 hi10 lo11 hi11 lo12 hi12 lo13 hi13 lo14 hi14 lo15 hi15 _).mono ?_;rintro e w1 ⟨e0,e1,e2,e3,e4,e5,e6,e7,e8,e9,e10,e11,e12,e13,e14,e15,c,rfl,hb,⟨⟨le0,ue0⟩,⟨le1,ue1⟩,⟨le2,ue2⟩,⟨le3,ue3⟩,⟨le4,ue4⟩,⟨le5,ue5⟩,⟨le6,ue6⟩,⟨le7,ue7⟩,⟨le8,ue8⟩,⟨le9,ue9⟩,⟨le10,ue10⟩,⟨le11,ue11⟩,⟨le12,ue12⟩,⟨le13,ue13⟩,⟨le14,ue14⟩,⟨le15,ue15⟩,lc,uc⟩,hv⟩;have HC:=hide hv;clear hv;have hst:=fun o=>(Go.heap_alloc_old w1 o (show w.heap.size<w1.heap.size by have:=hb.size;omega)).trans ((hb.block _ (by omega)).trans hrow))|(refine wpList_store_row rfl 34 _ _ rfl w1.heap.size #[.int .u64 e0,.int .u64 e1,.int .u64 e2,.int .u64 e3,.int .u64 e4,.int .u64 e5,.int .u64 e6,.int .u64 e7,.int .u64 e8,.int .u64 e9,.int .u64 e10,.int .u64 e11,.int .u64 e12,.int .u64 e13,.int .u64 e14,.int .u64 e15] rfl rfl 34 _ (hp1_0 w1 _) (by kernel_rfl) rfl (by kernel_rfl) ?_;rw[setRow_alloc_new _ _ _ _ _ _ rfl])|(refine wpList_load_row rfl 34 _ rfl w1.heap.size rfl 34 #[.int .u64 e0,.int .u64 e1,.int .u64 e2,.int .u64 e3,.int .u64 e4,.int .u64 e5,.int .u64 e6,.int .u64 e7,.int .u64 e8,.int .u64 e9,.int .u64 e10,.int .u64 e11,.int .u64 e12,.int .u64 e13,.int .u64 e14,.int .u64 e15] (0,0) _ (hp1_0 w1 _) Tryd.underlying34 rfl (by kernel_rfl) ?_)|(refine wpList_store_row rfl 34 _ _ rfl w.heap.size #[.int .u64 e0,.int .u64 e1,.int .u64 e2,.int .u64 e3,.int .u64 e4,.int .u64 e5,.int .u64 e6,.int .u64 e7,.int .u64 e8,.int .u64 e9,.int .u64 e10,.int .u64 e11,.int .u64 e12,.int .u64 e13,.int .u64 e14,.int .u64 e15] rfl rfl 34 _ (hst _) (by kernel_rfl) rfl (by kernel_rfl) ?_;obtain⟨k2,k2Z,kb2,ks2⟩:=row_pack (E:=#[.int .u64 e0,.int .u64 e1,.int .u64 e2,.int .u64 e3,.int .u64 e4,.int .u64 e5,.int .u64 e6,.int .u64 e7,.int .u64 e8,.int .u64 e9,.int .u64 e10,.int .u64 e11,.int .u64 e12,.int .u64 e13,.int .u64 e14,.int .u64 e15]) (.cells #[.int .u64 e0,.int .u64 e1,.int .u64 e2,.int .u64 e3,.int .u64 e4,.int .u64 e5,.int .u64 e6,.int .u64 e7,.int .u64 e8,.int .u64 e9,.int .u64 e10,.int .u64 e11,.int .u64 e12,.int .u64 e13,.int .u64 e14,.int .u64 e15] 34 (0,0)) hrow hZ hbel hsz hb;generalize World.setRow (w1.alloc (.cells #[.int .u64 e0,.int .u64 e1,.int .u64 e2,.int .u64 e3,.int .u64 e4,.int .u64 e5,.int .u64 e6,.int .u64 e7,.int .u64 e8,.int .u64 e9,.int .u64 e10,.int .u64 e11,.int .u64 e12,.int .u64 e13,.int .u64 e14,.int .u64 e15] 34 (0,0))) w.heap.size #[.int .u64 e0,.int .u64 e1,.int .u64 e2,.int .u64 e3,.int .u64 e4,.int .u64 e5,.int .u64 e6,.int .u64 e7,.int .u64 e8,.int .u64 e9,.int .u64 e10,.int .u64 e11,.int .u64 e12,.int .u64 e13,.int .u64 e14,.int .u64 e15]=W2 at k2 k2Z kb2 ks2⊢;have c0:=cell_of_row W2 w.heap.size 0 _ _ _ k2;have c15:=cell_of_row W2 w.heap.size 15 _ _ _ k2;have ff:=fun i=>frozen_of_row W2 w.heap.size i _ _ k2;clear hrow hZ hbel hsz hst;have K2:=hide k2;have K2Z:=hide k2Z;clear k2 k2Z))
   go_roundw
   case rel=>
    obtain⟨r1,r2,r3,r4⟩:=two_cells 15 0 (.int .u64 (e15%32768)) (.int .u64 (e0+(c*2+e15/32768)*19)) K2.out K2Z.out kb2 ks2
    refine⟨k+1,by omega,by go_num,e0+(c*2+e15/32768)*19,e1,e2,e3,e4,e5,e6,e7,e8,e9,e10,e11,e12,e13,e14,e15%32768,r1,⟨Z,r2,hZs⟩,r3,r4,⟨⟨by omega,by omega⟩,⟨le1,by omega⟩,⟨le2,by omega⟩,⟨le3,by omega⟩,⟨le4,by omega⟩,⟨le5,by omega⟩,⟨le6,by omega⟩,⟨le7,by omega⟩,⟨le8,by omega⟩,⟨le9,by omega⟩,⟨le10,by omega⟩,⟨le11,by omega⟩,⟨le12,by omega⟩,⟨le13,by omega⟩,⟨le14,by omega⟩,by omega,by omega⟩,?_⟩
    have hc:=HC.out;have hv:=HV.out
    show v16 _ _ _ _ _ _ _ _ _ _ _ _ _ _ _ _=fold1 (foldK k N)
    rw[←hv,←hc];clear hc hv HC HV r1 r2 r3 r4 lo0 hi0 lo1 hi1 lo2 hi2 lo3 hi3 lo4 hi4 lo5 hi5 lo6 hi6 lo7 hi7 lo8 hi8 lo9 hi9 lo10 hi10 lo11 hi11 lo12 hi12 lo13 hi13 lo14 hi14 lo15 hi15;exact fold_step e0 e1 e2 e3 e4 e5 e6 e7 e8 e9 e10 e11 e12 e13 e14 e15 c le0 ue0 le1 ue1 le2 ue2 le3 ue3 le4 ue4 le5 ue5 le6 ue6 le7 ue7 le8 ue8 le9 ue9 le10 ue10 le11 ue11 le12 ue12 le13 ue13 le14 ue14
   case measure=>simp[intOf];omega
  ·obtain rfl:k=3:=by omega
   go_wp2_with (first|(refine wpList_load_row rfl 34 _ rfl w.heap.size rfl 34 _ (0,0) _ hrow Tryd.underlying34 rfl (by kernel_rfl) ?_)|(go_at_call 94;refine(carried_any a0 a1 a2 a3 a4 a5 a6 a7 a8 a9 a10 a11 a12 a13 a14 a15 lo0 hi0 lo1 hi1 lo2 hi2 lo3 hi3 lo4 hi4 lo5 hi5 lo6 hi6 lo7 hi7 lo8 hi8 lo9 hi9 lo10 hi10 lo11 hi11 lo12 hi12 lo13 hi13 lo14 hi14 lo15 hi15 _).mono ?_;rintro e w1 ⟨e0,e1,e2,e3,e4,e5,e6,e7,e8,e9,e10,e11,e12,e13,e14,e15,c,rfl,hb,⟨⟨le0,ue0⟩,⟨le1,ue1⟩,⟨le2,ue2⟩,⟨le3,ue3⟩,⟨le4,ue4⟩,⟨le5,ue5⟩,⟨le6,ue6⟩,⟨le7,ue7⟩,⟨le8,ue8⟩,⟨le9,ue9⟩,⟨le10,ue10⟩,⟨le11,ue11⟩,⟨le12,ue12⟩,⟨le13,ue13⟩,⟨le14,ue14⟩,⟨le15,ue15⟩,lc,uc⟩,hv⟩;have HC:=hide hv;clear hv)|(refine wpList_store_row rfl 34 _ _ rfl w1.heap.size #[.int .u64 e0,.int .u64 e1,.int .u64 e2,.int .u64 e3,.int .u64 e4,.int .u64 e5,.int .u64 e6,.int .u64 e7,.int .u64 e8,.int .u64 e9,.int .u64 e10,.int .u64 e11,.int .u64 e12,.int .u64 e13,.int .u64 e14,.int .u64 e15] rfl rfl 34 _ (hp1_0 w1 _) (by kernel_rfl) rfl (by kernel_rfl) ?_;rw[setRow_alloc_new _ _ _ _ _ _ rfl])|(refine wpList_load_row rfl 34 _ rfl w1.heap.size rfl 34 #[.int .u64 e0,.int .u64 e1,.int .u64 e2,.int .u64 e3,.int .u64 e4,.int .u64 e5,.int .u64 e6,.int .u64 e7,.int .u64 e8,.int .u64 e9,.int .u64 e10,.int .u64 e11,.int .u64 e12,.int .u64 e13,.int .u64 e14,.int .u64 e15] (0,0) _ (hp1_0 w1 _) Tryd.underlying34 rfl (by kernel_rfl) ?_))
   have hmem:Hid (∀d∈[e0,e1,e2,e3,e4,e5,e6,e7,e8,e9,e10,e11,e12,e13,e14,e15],0≤d∧d<65536):=by unfold Hid;exact(by intro d hd;simp only[List.mem_cons,List.not_mem_nil,or_false] at hd;rcases hd with rfl|rfl|rfl|rfl|rfl|rfl|rfl|rfl|rfl|rfl|rfl|rfl|rfl|rfl|rfl|rfl<;>constructor<;>assumption)
   obtain⟨hX0,hX1,hXm⟩:Hid (v16 e0 e1 e2 e3 e4 e5 e6 e7 e8 e9 e10 e11 e12 e13 e14 e15=foldK 3 N)∧Hid (0≤v16 e0 e1 e2 e3 e4 e5 e6 e7 e8 e9 e10 e11 e12 e13 e14 e15∧v16 e0 e1 e2 e3 e4 e5 e6 e7 e8 e9 e10 e11 e12 e13 e14 e15<57896044618658097711785492504343953926634992332820282019728792003956564819968)∧Hid (v16 e0 e1 e2 e3 e4 e5 e6 e7 e8 e9 e10 e11 e12 e13 e14 e15%prm=N%prm):=by
    have h1:=HC.out;have h2:=HV.out;have h3:=fold3 N HNb.out.1 HNb.out.2;have h4:=v16_bd e0 e1 e2 e3 e4 e5 e6 e7 e8 e9 e10 e11 e12 e13 e14 e15 hmem.out;rw[h2] at h1;unfold Hid
    generalize v16 e0 e1 e2 e3 e4 e5 e6 e7 e8 e9 e10 e11 e12 e13 e14 e15=A at *
    generalize foldK 3 N=B at *
    have:A=B:=by omega
    subst this;exact⟨rfl,⟨h4.1,h3.2.1⟩,h3.2.2⟩
   clear HC HV;refine(atLeast_any e0 e1 e2 e3 e4 e5 e6 e7 e8 e9 e10 e11 e12 e13 e14 e15 le0 ue0 le1 ue1 le2 ue2 le3 ue3 le4 ue4 le5 ue5 le6 ue6 le7 ue7 le8 ue8 le9 ue9 le10 ue10 le11 ue11 le12 ue12 le13 ue13 le14 ue14 le15 ue15 _).mono ?_;rintro e' w2 ⟨rfl,hb2⟩;have hs1:=hb.size;have hs2:=hb2.size
   have hs2':w1.heap.size+1≤w2.heap.size:=by simpa using hs2
   have r7:w2.heap[w1.heap.size]? =some (.cells #[.int .u64 e0,.int .u64 e1,.int .u64 e2,.int .u64 e3,.int .u64 e4,.int .u64 e5,.int .u64 e6,.int .u64 e7,.int .u64 e8,.int .u64 e9,.int .u64 e10,.int .u64 e11,.int .u64 e12,.int .u64 e13,.int .u64 e14,.int .u64 e15] 34 (0,0)):=(hb2.block _ (by simp)).trans (hp1_0 w1 _)
   have rZ:w2.heap[w.heap.size+1]? =some (.cells Z 36 (0,0)):=(hb2.block _ (by simp;omega)).trans ((Go.heap_alloc_old w1 _ (by omega)).trans ((hb.block _ (by omega)).trans hZ))
   have hbw:Below w.heap.size w w2:=(hbel.trans (hb.mono (by omega))).trans (((Below.refl w.heap.size w1).alloc (by omega) _).trans (hb2.mono (by simp;omega)))
   clear hrow hZ hbel hb hb2 hs2
   cases hge:geP (v16 e0 e1 e2 e3 e4 e5 e6 e7 e8 e9 e10 e11 e12 e13 e14 e15)
   ·have hlt:Hid (v16 e0 e1 e2 e3 e4 e5 e6 e7 e8 e9 e10 e11 e12 e13 e14 e15<prm):=by
     unfold Hid prm;simp only[geP,decide_eq_false_iff_not] at hge;omega
    clear hge
    go_wp2_with (first|(refine wpList_load_row rfl 34 _ rfl w1.heap.size rfl 34 #[.int .u64 e0,.int .u64 e1,.int .u64 e2,.int .u64 e3,.int .u64 e4,.int .u64 e5,.int .u64 e6,.int .u64 e7,.int .u64 e8,.int .u64 e9,.int .u64 e10,.int .u64 e11,.int .u64 e12,.int .u64 e13,.int .u64 e14,.int .u64 e15] (0,0) _ r7 Tryd.underlying34 rfl (by kernel_rfl) ?_)|(refine wpList_store_row rfl 36 _ _ rfl (w.heap.size+1) #[.int .u64 e0,.int .u64 e1,.int .u64 e2,.int .u64 e3,.int .u64 e4,.int .u64 e5,.int .u64 e6,.int .u64 e7,.int .u64 e8,.int .u64 e9,.int .u64 e10,.int .u64 e11,.int .u64 e12,.int .u64 e13,.int .u64 e14,.int .u64 e15] rfl rfl 36 _ rZ (by kernel_rfl) hZs (by kernel_rfl) ?_))
    obtain⟨q0,q1,q2,q3,q4,q5,q6,q7,q8,q9,q10,q11,q12,q13,q14,q15⟩:=dg_v16 _ _ _ _ _ _ _ _ _ _ _ _ _ _ _ _ hmem.out
    have hmod:N%prm=v16 e0 e1 e2 e3 e4 e5 e6 e7 e8 e9 e10 e11 e12 e13 e14 e15:=by
     rw[←hXm.out];exact Int.emod_eq_of_lt hX1.out.1 hlt.out
    refine bodyPost_ret (v:=.agg #[.int .u64 e0,.int .u64 e1,.int .u64 e2,.int .u64 e3,.int .u64 e4,.int .u64 e5,.int .u64 e6,.int .u64 e7,.int .u64 e8,.int .u64 e9,.int .u64 e10,.int .u64 e11,.int .u64 e12,.int .u64 e13,.int .u64 e14,.int .u64 e15]) (results_cell_row Tryd.results65 _ _ (w.heap.size+1) _ #[.int .u64 e0,.int .u64 e1,.int .u64 e2,.int .u64 e3,.int .u64 e4,.int .u64 e5,.int .u64 e6,.int .u64 e7,.int .u64 e8,.int .u64 e9,.int .u64 e10,.int .u64 e11,.int .u64 e12,.int .u64 e13,.int .u64 e14,.int .u64 e15] _ _ rfl (setRow_heap _ _ _ _ _ _ rZ) Tryd.underlying36 rfl (by kernel_rfl)) rfl ⟨?_,below_setRow hbw (by omega) _⟩
    rw[hmod,q0,q1,q2,q3,q4,q5,q6,q7,q8,q9,q10,q11,q12,q13,q14,q15]
   ·have hge':Hid (prm≤v16 e0 e1 e2 e3 e4 e5 e6 e7 e8 e9 e10 e11 e12 e13 e14 e15):=by
     unfold Hid prm;simp only[geP,decide_eq_true_eq] at hge;omega
    have hvp:v16 65517 65535 65535 65535 65535 65535 65535 65535 65535 65535 65535 65535 65535 65535 65535 32767=prm:=by decide
    have hle:v16 65517 65535 65535 65535 65535 65535 65535 65535 65535 65535 65535 65535 65535 65535 65535 32767≤v16 e0 e1 e2 e3 e4 e5 e6 e7 e8 e9 e10 e11 e12 e13 e14 e15:=by rw[hvp];exact hge'.out
    have hr7:∀W,(∃p:Regrown,W=grow (redrawn w2 p.d) p.os)→W.heap[w1.heap.size]? =some (.cells #[.int .u64 e0,.int .u64 e1,.int .u64 e2,.int .u64 e3,.int .u64 e4,.int .u64 e5,.int .u64 e6,.int .u64 e7,.int .u64 e8,.int .u64 e9,.int .u64 e10,.int .u64 e11,.int .u64 e12,.int .u64 e13,.int .u64 e14,.int .u64 e15] 34 (0,0)):=by
     rintro _ ⟨p,rfl⟩;exact((below_regrown w2 p.d p.os).block _ (by omega)).trans r7
    go_wp2
    refine wp_region_tail (C:=fun w'=>∃p:Regrown,w'=grow (redrawn w2 p.d) p.os) 3 _ rfl rfl rfl (by kernel_rfl) (by kernel_rfl) (by kernel_rfl) (by kernel_rfl) ⟨⟨w2.drawn+1,#[]⟩,by rw[grow_empty];rfl⟩ ?_
    dsimp only[List.set,idle]
    refine wpQuiet_load_row rfl 34 _ rfl w1.heap.size rfl 34 #[.int .u64 e0,.int .u64 e1,.int .u64 e2,.int .u64 e3,.int .u64 e4,.int .u64 e5,.int .u64 e6,.int .u64 e7,.int .u64 e8,.int .u64 e9,.int .u64 e10,.int .u64 e11,.int .u64 e12,.int .u64 e13,.int .u64 e14,.int .u64 e15] (0,0) _ hr7 Tryd.underlying34 rfl (by kernel_rfl) ?_
    simp only[Act.put,ZPd,ZPe,ZPf];go_big_quiet_step (exact Calls.regrown_of (allPrime_any _))
    go_big_quiet_step (exact Calls.regrown_of (minus_dg e0 e1 e2 e3 e4 e5 e6 e7 e8 e9 e10 e11 e12 e13 e14 e15 65517 65535 65535 65535 65535 65535 65535 65535 65535 65535 65535 65535 65535 65535 65535 32767 le0 ue0 le1 ue1 le2 ue2 le3 ue3 le4 ue4 le5 ue5 le6 ue6 le7 ue7 le8 ue8 le9 ue9 le10 ue10 le11 ue11 le12 ue12 le13 ue13 le14 ue14 le15 ue15 (by omega) (by omega) (by omega) (by omega) (by omega) (by omega) (by omega) (by omega) (by omega) (by omega) (by omega) (by omega) (by omega) (by omega) (by omega) (by omega) (by omega) (by omega) (by omega) (by omega) (by omega) (by omega) (by omega) (by omega) (by omega) (by omega) (by omega) (by omega) (by omega) (by omega) (by omega) (by omega) hle _))
    refine wpQuiet_idle rfl rfl rfl ?_;rintro _ ⟨p,rfl⟩;have r7':=hr7 _ ⟨p,rfl⟩;have hb3:=below_regrown w2 p.d p.os
    have rZ':(grow (redrawn w2 p.d) p.os).heap[w.heap.size+1]? =some (.cells Z 36 (0,0)):=(hb3.block _ (by omega)).trans rZ
    have hb4:Below w.heap.size w (grow (redrawn w2 p.d) p.os):=hbw.trans (hb3.mono (by omega))
    clear hr7 r7 rZ hbw hb3
    generalize grow (redrawn w2 p.d) p.os=W3 at *
    rw[hvp];generalize hG:v16 e0 e1 e2 e3 e4 e5 e6 e7 e8 e9 e10 e11 e12 e13 e14 e15-prm=G;have HG:=hide hG;clear hG hvp hle
    have hZ2:(W3.setRow w1.heap.size #[.int .u64 (dg (G) 0),.int .u64 (dg (G) 1),.int .u64 (dg (G) 2),.int .u64 (dg (G) 3),.int .u64 (dg (G) 4),.int .u64 (dg (G) 5),.int .u64 (dg (G) 6),.int .u64 (dg (G) 7),.int .u64 (dg (G) 8),.int .u64 (dg (G) 9),.int .u64 (dg (G) 10),.int .u64 (dg (G) 11),.int .u64 (dg (G) 12),.int .u64 (dg (G) 13),.int .u64 (dg (G) 14),.int .u64 (dg (G) 15)]).heap[w.heap.size+1]? =some (.cells Z 36 (0,0)):=(setRow_other _ _ _ _ (by omega)).trans rZ'
    have r72:(W3.setRow w1.heap.size #[.int .u64 (dg (G) 0),.int .u64 (dg (G) 1),.int .u64 (dg (G) 2),.int .u64 (dg (G) 3),.int .u64 (dg (G) 4),.int .u64 (dg (G) 5),.int .u64 (dg (G) 6),.int .u64 (dg (G) 7),.int .u64 (dg (G) 8),.int .u64 (dg (G) 9),.int .u64 (dg (G) 10),.int .u64 (dg (G) 11),.int .u64 (dg (G) 12),.int .u64 (dg (G) 13),.int .u64 (dg (G) 14),.int .u64 (dg (G) 15)]).heap[w1.heap.size]? =some (.cells #[.int .u64 (dg (G) 0),.int .u64 (dg (G) 1),.int .u64 (dg (G) 2),.int .u64 (dg (G) 3),.int .u64 (dg (G) 4),.int .u64 (dg (G) 5),.int .u64 (dg (G) 6),.int .u64 (dg (G) 7),.int .u64 (dg (G) 8),.int .u64 (dg (G) 9),.int .u64 (dg (G) 10),.int .u64 (dg (G) 11),.int .u64 (dg (G) 12),.int .u64 (dg (G) 13),.int .u64 (dg (G) 14),.int .u64 (dg (G) 15)] 34 (0,0)):=setRow_heap _ _ _ _ _ _ r7'
    have hb5:Below w.heap.size w (W3.setRow w1.heap.size #[.int .u64 (dg (G) 0),.int .u64 (dg (G) 1),.int .u64 (dg (G) 2),.int .u64 (dg (G) 3),.int .u64 (dg (G) 4),.int .u64 (dg (G) 5),.int .u64 (dg (G) 6),.int .u64 (dg (G) 7),.int .u64 (dg (G) 8),.int .u64 (dg (G) 9),.int .u64 (dg (G) 10),.int .u64 (dg (G) 11),.int .u64 (dg (G) 12),.int .u64 (dg (G) 13),.int .u64 (dg (G) 14),.int .u64 (dg (G) 15)]):=below_setRow hb4 (by omega) _
    refine wpList_store_row rfl 34 _ _ rfl w1.heap.size #[.int .u64 (dg (G) 0),.int .u64 (dg (G) 1),.int .u64 (dg (G) 2),.int .u64 (dg (G) 3),.int .u64 (dg (G) 4),.int .u64 (dg (G) 5),.int .u64 (dg (G) 6),.int .u64 (dg (G) 7),.int .u64 (dg (G) 8),.int .u64 (dg (G) 9),.int .u64 (dg (G) 10),.int .u64 (dg (G) 11),.int .u64 (dg (G) 12),.int .u64 (dg (G) 13),.int .u64 (dg (G) 14),.int .u64 (dg (G) 15)] rfl rfl 34 _ r7' (by kernel_rfl) rfl (by kernel_rfl) ?_
    simp only[Act.put]
    generalize W3.setRow w1.heap.size #[.int .u64 (dg (G) 0),.int .u64 (dg (G) 1),.int .u64 (dg (G) 2),.int .u64 (dg (G) 3),.int .u64 (dg (G) 4),.int .u64 (dg (G) 5),.int .u64 (dg (G) 6),.int .u64 (dg (G) 7),.int .u64 (dg (G) 8),.int .u64 (dg (G) 9),.int .u64 (dg (G) 10),.int .u64 (dg (G) 11),.int .u64 (dg (G) 12),.int .u64 (dg (G) 13),.int .u64 (dg (G) 14),.int .u64 (dg (G) 15)]=W4 at *
    go_wp2_with (first|(refine wpList_load_row rfl 34 _ rfl w1.heap.size rfl 34 #[.int .u64 (dg (G) 0),.int .u64 (dg (G) 1),.int .u64 (dg (G) 2),.int .u64 (dg (G) 3),.int .u64 (dg (G) 4),.int .u64 (dg (G) 5),.int .u64 (dg (G) 6),.int .u64 (dg (G) 7),.int .u64 (dg (G) 8),.int .u64 (dg (G) 9),.int .u64 (dg (G) 10),.int .u64 (dg (G) 11),.int .u64 (dg (G) 12),.int .u64 (dg (G) 13),.int .u64 (dg (G) 14),.int .u64 (dg (G) 15)] (0,0) _ r72 Tryd.underlying34 rfl (by kernel_rfl) ?_)|(refine wpList_store_row rfl 36 _ _ rfl (w.heap.size+1) #[.int .u64 (dg (G) 0),.int .u64 (dg (G) 1),.int .u64 (dg (G) 2),.int .u64 (dg (G) 3),.int .u64 (dg (G) 4),.int .u64 (dg (G) 5),.int .u64 (dg (G) 6),.int .u64 (dg (G) 7),.int .u64 (dg (G) 8),.int .u64 (dg (G) 9),.int .u64 (dg (G) 10),.int .u64 (dg (G) 11),.int .u64 (dg (G) 12),.int .u64 (dg (G) 13),.int .u64 (dg (G) 14),.int .u64 (dg (G) 15)] rfl rfl 36 _ hZ2 (by kernel_rfl) hZs (by kernel_rfl) ?_))
    have hmod:N%prm=G:=by
     rw[←hXm.out,←HG.out];have h1:=hX1.out;have h2:=hge'.out
     unfold prm at *
     omega
    refine bodyPost_ret (v:=.agg #[.int .u64 (dg (G) 0),.int .u64 (dg (G) 1),.int .u64 (dg (G) 2),.int .u64 (dg (G) 3),.int .u64 (dg (G) 4),.int .u64 (dg (G) 5),.int .u64 (dg (G) 6),.int .u64 (dg (G) 7),.int .u64 (dg (G) 8),.int .u64 (dg (G) 9),.int .u64 (dg (G) 10),.int .u64 (dg (G) 11),.int .u64 (dg (G) 12),.int .u64 (dg (G) 13),.int .u64 (dg (G) 14),.int .u64 (dg (G) 15)]) (results_cell_row Tryd.results65 _ _ (w.heap.size+1) _ #[.int .u64 (dg (G) 0),.int .u64 (dg (G) 1),.int .u64 (dg (G) 2),.int .u64 (dg (G) 3),.int .u64 (dg (G) 4),.int .u64 (dg (G) 5),.int .u64 (dg (G) 6),.int .u64 (dg (G) 7),.int .u64 (dg (G) 8),.int .u64 (dg (G) 9),.int .u64 (dg (G) 10),.int .u64 (dg (G) 11),.int .u64 (dg (G) 12),.int .u64 (dg (G) 13),.int .u64 (dg (G) 14),.int .u64 (dg (G) 15)] _ _ rfl (setRow_heap _ _ _ _ _ _ hZ2) Tryd.underlying36 rfl (by kernel_rfl)) rfl ⟨by rw[hmod],below_setRow hb5 (by omega) _⟩
end Go.Proofs.YtdcpcdkbhgkmlaaDoor
namespace Go.Proofs.YtdcpcdkbhgkmlaaDoor
set_option maxRecDepth 100000
open Go.RowKit Go.Sort
attribute [local go_sem] setCell_drewN alloc_drewN
structure Row (g:Nat→Int) (D:Array Value):Prop where
 size:D.size=16
 cell:∀i,i<16→D[i]? =some (.int .u64 (g i))
theorem Row.lit {g:Nat→Int} {D:Array Value} (h:Row g D):D=#[.int .u64 (g 0),.int .u64 (g 1),.int .u64 (g 2),.int .u64 (g 3),.int .u64 (g 4),.int .u64 (g 5),.int .u64 (g 6),.int .u64 (g 7),.int .u64 (g 8),.int .u64 (g 9),.int .u64 (g 10),.int .u64 (g 11),.int .u64 (g 12),.int .u64 (g 13),.int .u64 (g 14),.int .u64 (g 15)]:=by
 apply Array.ext_getElem?
 intro i
 by_cases hi:i<16
 ·rw[h.cell i hi]
  rcases(by omega:i=0∨i=1∨i=2∨i=3∨i=4∨i=5∨i=6∨i=7∨i=8∨i=9∨i=10∨i=11∨i=12∨i=13∨i=14∨i=15) with rfl|rfl|rfl|rfl|rfl|rfl|rfl|rfl|rfl|rfl|rfl|rfl|rfl|rfl|rfl|rfl<;>rfl
 ·rw[Array.getElem?_eq_none (by rw[h.size];omega),Array.getElem?_eq_none (by simp;omega)]
theorem Row.zero:Row (fun _=>0) #[.int .u64 0,.int .u64 0,.int .u64 0,.int .u64 0,.int .u64 0,.int .u64 0,.int .u64 0,.int .u64 0,.int .u64 0,.int .u64 0,.int .u64 0,.int .u64 0,.int .u64 0,.int .u64 0,.int .u64 0,.int .u64 0]:=by
 refine⟨rfl,fun i hi=>?_⟩
 rcases(by omega:i=0∨i=1∨i=2∨i=3∨i=4∨i=5∨i=6∨i=7∨i=8∨i=9∨i=10∨i=11∨i=12∨i=13∨i=14∨i=15) with rfl|rfl|rfl|rfl|rfl|rfl|rfl|rfl|rfl|rfl|rfl|rfl|rfl|rfl|rfl|rfl<;>rfl
theorem Row.set {g:Nat→Int} {D:Array Value} (h:Row g D) (k:Nat) (v:Int) (hk:k<16):Row (upd g k v) (D.setIfInBounds k (.int .u64 (g k+v))):=by
 refine⟨by simp[h.size],fun i hi=>?_⟩
 rw[Array.getElem?_setIfInBounds]
 by_cases e:k=i
 ·subst e;rw[if_pos rfl,if_pos (by rw[h.size];exact hk)];simp[upd]
 ·rw[if_neg e,h.cell i hi];simp only[upd];rw[if_neg (fun h=>e h.symm)]
theorem upd_bd {g:Nat→Int} {c:Nat} (hg:∀t,0≤g t∧g t≤(c:Nat)*163203776550) (k:Nat) (v:Int) (h0:0≤v) (h1:v≤163203776550):∀t,0≤upd g k v t∧upd g k v t≤((c+1:Nat):Int)*163203776550:=by
 intro t;have:=hg t;simp only[upd]
 split<;>omega
theorem low_step {x y g:Nat→Int} {k l:Nat} (h:∃q:Int,sumN 16 g+prm*q=prt x y k l) (hkl:k+l<16):∃q:Int,sumN 16 (upd g (k+l) (x k*y l))+prm*q=prt x y k (l+1):=by
 obtain⟨q,hq⟩:=h
 exact⟨q,by rw[sumN_upd _ _ _ _ hkl,prt_step,←hq];omega⟩
theorem high_step {x y g:Nat→Int} {k l:Nat} (h:∃q:Int,sumN 16 g+prm*q=prt x y k l) (hkl:16≤k+l) (hk:k<16) (hl:l<16):∃q:Int,sumN 16 (upd g (k+l-16) (38*(x k*y l)))+prm*q=prt x y k (l+1):=by
 obtain⟨q,hq⟩:=h;obtain⟨q2,hq2⟩:=pow_wrap (k+l-16) (x k*y l)
 rw[show k+l-16+16=k+l from by omega] at hq2
 exact⟨q+q2,by rw[sumN_upd _ _ _ _ (by omega),prt_step,←hq,←hq2,Int.mul_add];omega⟩
set_option maxHeartbeats 4000000 in
theorem refMul_row (x y:Nat→Int) (hx:∀i,0≤x i∧x i<65536) (hy:∀i,0≤y i∧y i<65536) (CA CB:Array Value) (hA:Row x CA) (hB:Row y CB) (w:World):
 Calls Tryd.prog 47 #[.agg CA,.agg CB] w fun e w'=>e=.returned (.agg #[.int .u64 (dg (sumN 16 x*sumN 16 y%prm) 0),.int .u64 (dg (sumN 16 x*sumN 16 y%prm) 1),.int .u64 (dg (sumN 16 x*sumN 16 y%prm) 2),.int .u64 (dg (sumN 16 x*sumN 16 y%prm) 3),.int .u64 (dg (sumN 16 x*sumN 16 y%prm) 4),.int .u64 (dg (sumN 16 x*sumN 16 y%prm) 5),.int .u64 (dg (sumN 16 x*sumN 16 y%prm) 6),.int .u64 (dg (sumN 16 x*sumN 16 y%prm) 7),.int .u64 (dg (sumN 16 x*sumN 16 y%prm) 8),.int .u64 (dg (sumN 16 x*sumN 16 y%prm) 9),.int .u64 (dg (sumN 16 x*sumN 16 y%prm) 10),.int .u64 (dg (sumN 16 x*sumN 16 y%prm) 11),.int .u64 (dg (sumN 16 x*sumN 16 y%prm) 12),.int .u64 (dg (sumN 16 x*sumN 16 y%prm) 13),.int .u64 (dg (sumN 16 x*sumN 16 y%prm) 14),.int .u64 (dg (sumN 16 x*sumN 16 y%prm) 15)])∧Below w.heap.size w w':=by
 go_enter Tryd.func47,Tryd.ntmps47
 go_wp2
 go_loopw [6,7] (fun i _ wr=>∃k:Nat,k≤16∧i=.int .i64 k∧∃(D:Array Value) (g:Nat→Int) (m:Nat),wr=(((((w.alloc (.cells CA 36)).alloc (.cells CB 36)).alloc (.cells #[.int .u64 0,.int .u64 0,.int .u64 0,.int .u64 0,.int .u64 0,.int .u64 0,.int .u64 0,.int .u64 0,.int .u64 0,.int .u64 0,.int .u64 0,.int .u64 0,.int .u64 0,.int .u64 0,.int .u64 0,.int .u64 0] 36)).alloc (.cells D 34)).drewN m)∧Row g D∧(∀t,0≤g t∧g t≤(16*k:Nat)*163203776550)∧Hid (∃q:Int,sumN 16 g+prm*q=prt x y k 0)) (fun i _ _=>16-(intOf i).toNat)
 case atStart=>exact⟨0,by omega,rfl,#[.int .u64 0,.int .u64 0,.int .u64 0,.int .u64 0,.int .u64 0,.int .u64 0,.int .u64 0,.int .u64 0,.int .u64 0,.int .u64 0,.int .u64 0,.int .u64 0,.int .u64 0,.int .u64 0,.int .u64 0,.int .u64 0],fun _=>0,0,rfl,Row.zero,fun t=>by simp,⟨0,by rw[prt_zero];simp[sumN]⟩⟩
 case round=>
  obtain⟨k,hk,rfl,D,g,m,rfl,hD,hg,HV⟩:=hrel
  by_cases hlt:k<16
  ·have hd:decide ((k:Int)<16)=true:=by simp;omega
   have hax:=hA.cell k hlt
   obtain⟨ax0,ax1⟩:=hx k
   go_wp2
   go_loopw [7] (fun j wr=>∃l:Nat,l≤16∧j=.int .i64 l∧∃(D:Array Value) (g:Nat→Int) (m:Nat),wr=(((((w.alloc (.cells CA 36)).alloc (.cells CB 36)).alloc (.cells #[.int .u64 0,.int .u64 0,.int .u64 0,.int .u64 0,.int .u64 0,.int .u64 0,.int .u64 0,.int .u64 0,.int .u64 0,.int .u64 0,.int .u64 0,.int .u64 0,.int .u64 0,.int .u64 0,.int .u64 0,.int .u64 0] 36)).alloc (.cells D 34)).drewN m)∧Row g D∧(∀t,0≤g t∧g t≤(16*k+l:Nat)*163203776550)∧Hid (∃q:Int,sumN 16 g+prm*q=prt x y k l)) (fun j _=>16-(intOf j).toNat)
   case atStart=>exact⟨0,by omega,rfl,D,g,m,rfl,hD,hg,HV⟩
   case round=>
    clear HV hg hD;obtain⟨l,hl,rfl,D,g,m,rfl,hD,hg,HV⟩:=hrel
    by_cases hll:l<16
    ·have hd2:decide ((l:Int)<16)=true:=by simp;omega
     have hby:=hB.cell l hll
     obtain⟨by0,by1⟩:=hy l;obtain⟨pp0,pp1⟩:=mul38 (x k) (y l) ax0 ax1 by0 by1
     by_cases hkl:k+l<16
     ·have hdd:=hD.cell (k+l) hkl
      have hn:((k:Int)+(l:Int)).toNat=k+l:=by omega
      have hd3:decide ((k:Int)+(l:Int)<16)=true:=by simp;omega
      obtain⟨gg0,gg1⟩:=hg (k+l)
      have gg2:g (k+l)≤41780166796800:=by omega
      have Hg:=hide hg;clear hg gg1
      go_wp2
      go_quiet (fail)
      go_wp2
      go_roundw
      case rel=>exact⟨l+1,by omega,by go_num,_,_,_,rfl,hD.set (k+l) (x k*y l) hkl,upd_bd Hg.out (k+l) (x k*y l) pp0 (by omega),low_step HV.out hkl⟩
      case measure=>simp[intOf];omega
     ·have hdd:=hD.cell (k+l-16) (by omega)
      have hn:((k:Int)+(l:Int)-16).toNat=k+l-16:=by omega
      have hd3:decide ((k:Int)+(l:Int)<16)=false:=by simp;omega
      obtain⟨gg0,gg1⟩:=hg (k+l-16)
      have gg2:g (k+l-16)≤41780166796800:=by omega
      have Hg:=hide hg;clear hg gg1
      go_wp2
      go_quiet (fail)
      go_wp2
      go_roundw
      case rel=>exact⟨l+1,by omega,by go_num,_,_,_,rfl,hD.set (k+l-16) (38*(x k*y l)) (by omega),upd_bd Hg.out (k+l-16) (38*(x k*y l)) (by omega) (by omega),high_step HV.out (by omega) hlt hll⟩
      case measure=>simp[intOf];omega
    ·obtain rfl:l=16:=by omega
     have hd2:decide (((16:Nat):Int)<16)=false:=by decide
     go_wp2
     go_roundw
     case rel=>exact⟨k+1,by omega,by go_num,D,g,m,rfl,hD,hg,by rw[prt_next];exact HV⟩
     case measure=>simp[intOf];omega
  ·obtain rfl:k=16:=by omega
   obtain⟨q,hq⟩:=HV.out
   have HQ:=hide hq;clear hq HV hA hB hx hy;obtain rfl:=hD.lit;obtain⟨lo0,hi0⟩:=hg 0;obtain⟨lo1,hi1⟩:=hg 1;obtain⟨lo2,hi2⟩:=hg 2;obtain⟨lo3,hi3⟩:=hg 3;obtain⟨lo4,hi4⟩:=hg 4;obtain⟨lo5,hi5⟩:=hg 5;obtain⟨lo6,hi6⟩:=hg 6;obtain⟨lo7,hi7⟩:=hg 7;obtain⟨lo8,hi8⟩:=hg 8;obtain⟨lo9,hi9⟩:=hg 9;obtain⟨lo10,hi10⟩:=hg 10;obtain⟨lo11,hi11⟩:=hg 11;obtain⟨lo12,hi12⟩:=hg 12;obtain⟨lo13,hi13⟩:=hg 13;obtain⟨lo14,hi14⟩:=hg 14;obtain⟨lo15,hi15⟩:=hg 15;clear hg hD
   go_wp2_with (first|(refine wpList_load_row rfl 34 _ rfl (w.heap.size+1+1+1) rfl 34 #[.int .u64 (g 0),.int .u64 (g 1),.int .u64 (g 2),.int .u64 (g 3),.int .u64 (g 4),.int .u64 (g 5),.int .u64 (g 6),.int .u64 (g 7),.int .u64 (g 8),.int .u64 (g 9),.int .u64 (g 10),.int .u64 (g 11),.int .u64 (g 12),.int .u64 (g 13),.int .u64 (g 14),.int .u64 (g 15)] (0,0) _ (by rw[World.heap_drewN,hp4_3]) Tryd.underlying34 rfl (by kernel_rfl) ?_)|fail)
   refine(settle_any (g 0) (g 1) (g 2) (g 3) (g 4) (g 5) (g 6) (g 7) (g 8) (g 9) (g 10) (g 11) (g 12) (g 13) (g 14) (g 15) lo0 (by omega) lo1 (by omega) lo2 (by omega) lo3 (by omega) lo4 (by omega) lo5 (by omega) lo6 (by omega) lo7 (by omega) lo8 (by omega) lo9 (by omega) lo10 (by omega) lo11 (by omega) lo12 (by omega) lo13 (by omega) lo14 (by omega) lo15 (by omega) _).mono ?_
   rintro e w1 ⟨rfl,hb⟩;rw[←sumN_v16,mod_of_sum HQ.out,prt_end]
   have rZ:w1.heap[w.heap.size+1+1]? =some (.cells #[.int .u64 0,.int .u64 0,.int .u64 0,.int .u64 0,.int .u64 0,.int .u64 0,.int .u64 0,.int .u64 0,.int .u64 0,.int .u64 0,.int .u64 0,.int .u64 0,.int .u64 0,.int .u64 0,.int .u64 0,.int .u64 0] 36 (0,0)):=(hb.block _ (by simp)).trans (by rw[World.heap_drewN,hp4_2])
   have hbw:Below w.heap.size w w1:=(below_drN (((((Below.refl _ _).alloc (Nat.le_refl _) _).alloc (by simp) _).alloc (by simp;omega) _).alloc (by simp;omega) _) _).trans (hb.mono (by simp;omega))
   clear hb HQ
   go_wp2_with (first|(refine wpList_store_row rfl 36 _ _ rfl (w.heap.size+1+1) #[.int .u64 (dg (sumN 16 x*sumN 16 y%prm) 0),.int .u64 (dg (sumN 16 x*sumN 16 y%prm) 1),.int .u64 (dg (sumN 16 x*sumN 16 y%prm) 2),.int .u64 (dg (sumN 16 x*sumN 16 y%prm) 3),.int .u64 (dg (sumN 16 x*sumN 16 y%prm) 4),.int .u64 (dg (sumN 16 x*sumN 16 y%prm) 5),.int .u64 (dg (sumN 16 x*sumN 16 y%prm) 6),.int .u64 (dg (sumN 16 x*sumN 16 y%prm) 7),.int .u64 (dg (sumN 16 x*sumN 16 y%prm) 8),.int .u64 (dg (sumN 16 x*sumN 16 y%prm) 9),.int .u64 (dg (sumN 16 x*sumN 16 y%prm) 10),.int .u64 (dg (sumN 16 x*sumN 16 y%prm) 11),.int .u64 (dg (sumN 16 x*sumN 16 y%prm) 12),.int .u64 (dg (sumN 16 x*sumN 16 y%prm) 13),.int .u64 (dg (sumN 16 x*sumN 16 y%prm) 14),.int .u64 (dg (sumN 16 x*sumN 16 y%prm) 15)] rfl rfl 36 _ rZ (by kernel_rfl) rfl (by kernel_rfl) ?_)|fail)
   exact bodyPost_ret (v:=.agg #[.int .u64 (dg (sumN 16 x*sumN 16 y%prm) 0),.int .u64 (dg (sumN 16 x*sumN 16 y%prm) 1),.int .u64 (dg (sumN 16 x*sumN 16 y%prm) 2),.int .u64 (dg (sumN 16 x*sumN 16 y%prm) 3),.int .u64 (dg (sumN 16 x*sumN 16 y%prm) 4),.int .u64 (dg (sumN 16 x*sumN 16 y%prm) 5),.int .u64 (dg (sumN 16 x*sumN 16 y%prm) 6),.int .u64 (dg (sumN 16 x*sumN 16 y%prm) 7),.int .u64 (dg (sumN 16 x*sumN 16 y%prm) 8),.int .u64 (dg (sumN 16 x*sumN 16 y%prm) 9),.int .u64 (dg (sumN 16 x*sumN 16 y%prm) 10),.int .u64 (dg (sumN 16 x*sumN 16 y%prm) 11),.int .u64 (dg (sumN 16 x*sumN 16 y%prm) 12),.int .u64 (dg (sumN 16 x*sumN 16 y%prm) 13),.int .u64 (dg (sumN 16 x*sumN 16 y%prm) 14),.int .u64 (dg (sumN 16 x*sumN 16 y%prm) 15)]) (results_cell_row Tryd.results47 _ _ (w.heap.size+1+1) _ #[.int .u64 (dg (sumN 16 x*sumN 16 y%prm) 0),.int .u64 (dg (sumN 16 x*sumN 16 y%prm) 1),.int .u64 (dg (sumN 16 x*sumN 16 y%prm) 2),.int .u64 (dg (sumN 16 x*sumN 16 y%prm) 3),.int .u64 (dg (sumN 16 x*sumN 16 y%prm) 4),.int .u64 (dg (sumN 16 x*sumN 16 y%prm) 5),.int .u64 (dg (sumN 16 x*sumN 16 y%prm) 6),.int .u64 (dg (sumN 16 x*sumN 16 y%prm) 7),.int .u64 (dg (sumN 16 x*sumN 16 y%prm) 8),.int .u64 (dg (sumN 16 x*sumN 16 y%prm) 9),.int .u64 (dg (sumN 16 x*sumN 16 y%prm) 10),.int .u64 (dg (sumN 16 x*sumN 16 y%prm) 11),.int .u64 (dg (sumN 16 x*sumN 16 y%prm) 12),.int .u64 (dg (sumN 16 x*sumN 16 y%prm) 13),.int .u64 (dg (sumN 16 x*sumN 16 y%prm) 14),.int .u64 (dg (sumN 16 x*sumN 16 y%prm) 15)] _ _ rfl (setRow_heap _ _ _ _ _ _ rZ) Tryd.underlying36 rfl (by kernel_rfl)) rfl ⟨rfl,below_setRow hbw (by omega) _⟩
theorem Row.dg (m:Int):Row (dg m) #[.int .u64 (dg m 0),.int .u64 (dg m 1),.int .u64 (dg m 2),.int .u64 (dg m 3),.int .u64 (dg m 4),.int .u64 (dg m 5),.int .u64 (dg m 6),.int .u64 (dg m 7),.int .u64 (dg m 8),.int .u64 (dg m 9),.int .u64 (dg m 10),.int .u64 (dg m 11),.int .u64 (dg m 12),.int .u64 (dg m 13),.int .u64 (dg m 14),.int .u64 (dg m 15)]:=by
 refine⟨rfl,fun i hi=>?_⟩
 rcases(by omega:i=0∨i=1∨i=2∨i=3∨i=4∨i=5∨i=6∨i=7∨i=8∨i=9∨i=10∨i=11∨i=12∨i=13∨i=14∨i=15) with rfl|rfl|rfl|rfl|rfl|rfl|rfl|rfl|rfl|rfl|rfl|rfl|rfl|rfl|rfl|rfl<;>rfl
theorem refMul_dg (m k:Int) (hm0:0≤m) (hm:m<prm) (hk0:0≤k) (hk:k<prm) (w:World):
 Calls Tryd.prog 47 #[.agg #[.int .u64 (dg m 0),.int .u64 (dg m 1),.int .u64 (dg m 2),.int .u64 (dg m 3),.int .u64 (dg m 4),.int .u64 (dg m 5),.int .u64 (dg m 6),.int .u64 (dg m 7),.int .u64 (dg m 8),.int .u64 (dg m 9),.int .u64 (dg m 10),.int .u64 (dg m 11),.int .u64 (dg m 12),.int .u64 (dg m 13),.int .u64 (dg m 14),.int .u64 (dg m 15)],.agg #[.int .u64 (dg k 0),.int .u64 (dg k 1),.int .u64 (dg k 2),.int .u64 (dg k 3),.int .u64 (dg k 4),.int .u64 (dg k 5),.int .u64 (dg k 6),.int .u64 (dg k 7),.int .u64 (dg k 8),.int .u64 (dg k 9),.int .u64 (dg k 10),.int .u64 (dg k 11),.int .u64 (dg k 12),.int .u64 (dg k 13),.int .u64 (dg k 14),.int .u64 (dg k 15)]] w fun e w'=>e=.returned (.agg #[.int .u64 (dg (m*k%prm) 0),.int .u64 (dg (m*k%prm) 1),.int .u64 (dg (m*k%prm) 2),.int .u64 (dg (m*k%prm) 3),.int .u64 (dg (m*k%prm) 4),.int .u64 (dg (m*k%prm) 5),.int .u64 (dg (m*k%prm) 6),.int .u64 (dg (m*k%prm) 7),.int .u64 (dg (m*k%prm) 8),.int .u64 (dg (m*k%prm) 9),.int .u64 (dg (m*k%prm) 10),.int .u64 (dg (m*k%prm) 11),.int .u64 (dg (m*k%prm) 12),.int .u64 (dg (m*k%prm) 13),.int .u64 (dg (m*k%prm) 14),.int .u64 (dg (m*k%prm) 15)])∧Below w.heap.size w w':=by
 have h:=refMul_row (Go.Proofs.YtdcpcdkbhgkmlaaDoor.dg m) (Go.Proofs.YtdcpcdkbhgkmlaaDoor.dg k) (dg_bd m) (dg_bd k) _ _ (Row.dg m) (Row.dg k) w
 rw[sumN_dg m hm0 (by unfold prm at hm;omega),sumN_dg k hk0 (by unfold prm at hk;omega)] at h
 exact h
end Go.Proofs.YtdcpcdkbhgkmlaaDoor
namespace Go.Proofs.YtdcpcdkbhgkmlaaDoor
set_option maxRecDepth 100000
open Go.RowKit Go.Sort
attribute [local go_sem] setCell_drewN alloc_drewN
set_option maxHeartbeats 1000000 in
theorem small_any (k:Int) (h0:0≤k) (h1:k<18446744073709551616) (w:World):
 Calls Tryd.prog 72 #[.int .u64 k] w fun e w'=>e=.returned (.agg #[.int .u64 (k%2251799813685248),.int .u64 (k/2251799813685248),.int .u64 0,.int .u64 0,.int .u64 0])∧Below w.heap.size w w':=by
 go_enter Tryd.func72,Tryd.ntmps72
 go_wp2
 rw[and51 k h0 h1]
 exact bodyPost_ret (v:=.agg #[.int .u64 (k%2251799813685248),.int .u64 (k/2251799813685248),.int .u64 0,.int .u64 0,.int .u64 0]) (results_cell_row Tryd.results72 _ _ w.heap.size _ #[.int .u64 (k%2251799813685248),.int .u64 (k/2251799813685248),.int .u64 0,.int .u64 0,.int .u64 0] _ _ rfl (hp1_0 w _) Tryd.underlying28 rfl (by kernel_rfl)) rfl ⟨rfl,(Below.refl _ _).alloc (Nat.le_refl _) _⟩
theorem small_val (k:Int):v5 (k%2251799813685248) (k/2251799813685248) 0 0 0=k:=by unfold v5;omega
set_option maxHeartbeats 2000000 in
theorem refSmall_any (k:Int) (h0:0≤k) (h1:k<18446744073709551616) (w:World):
 Calls Tryd.prog 37 #[.int .u64 k] w fun e w'=>e=.returned (.agg #[.int .u64 (dg (k) 0),.int .u64 (dg (k) 1),.int .u64 (dg (k) 2),.int .u64 (dg (k) 3),.int .u64 (dg (k) 4),.int .u64 (dg (k) 5),.int .u64 (dg (k) 6),.int .u64 (dg (k) 7),.int .u64 (dg (k) 8),.int .u64 (dg (k) 9),.int .u64 (dg (k) 10),.int .u64 (dg (k) 11),.int .u64 (dg (k) 12),.int .u64 (dg (k) 13),.int .u64 (dg (k) 14),.int .u64 (dg (k) 15)])∧Below w.heap.size w w':=by
 have c:=fun W=>settle_any (k%65536) (k/65536%65536) (k/65536/65536%65536) (k/65536/65536/65536%65536) 0 0 0 0 0 0 0 0 0 0 0 0 (by omega) (by omega) (by omega) (by omega) (by omega) (by omega) (by omega) (by omega) (by omega) (by omega) (by omega) (by omega) (by omega) (by omega) (by omega) (by omega) (by omega) (by omega) (by omega) (by omega) (by omega) (by omega) (by omega) (by omega) (by omega) (by omega) (by omega) (by omega) (by omega) (by omega) (by omega) (by omega) W
 have hv:v16 (k%65536) (k/65536%65536) (k/65536/65536%65536) (k/65536/65536/65536%65536) 0 0 0 0 0 0 0 0 0 0 0 0%prm=k:=by
  have e:v16 (k%65536) (k/65536%65536) (k/65536/65536%65536) (k/65536/65536/65536%65536) 0 0 0 0 0 0 0 0 0 0 0 0=k:=by simp only[v16,valL];omega
  rw[e];exact Int.emod_eq_of_lt h0 (by unfold prm;omega)
 rw[hv] at c;have C:=hide c;clear c hv
 go_enter Tryd.func37,Tryd.ntmps37
 go_wp2
 refine wp_loop_rounds 5 ?_;rw[rounds_succ];go_wp2;rw[rounds_succ];go_wp2;rw[rounds_succ];go_wp2;rw[rounds_succ];go_wp2;rw[rounds_succ]
 go_wp2_with (first|(refine wpList_load_row rfl 34 _ rfl (w.heap.size+1) rfl 34 _ (0,0) _ (hp2_1 w _ _) Tryd.underlying34 rfl (by kernel_rfl) ?_)|fail)
 refine(C.out _).mono ?_;rintro e w1 ⟨rfl,hb⟩
 have rZ:w1.heap[w.heap.size]? =some (.cells #[.int .u64 0,.int .u64 0,.int .u64 0,.int .u64 0,.int .u64 0,.int .u64 0,.int .u64 0,.int .u64 0,.int .u64 0,.int .u64 0,.int .u64 0,.int .u64 0,.int .u64 0,.int .u64 0,.int .u64 0,.int .u64 0] 36 (0,0)):=(hb.block _ (by simp;omega)).trans (hp2_0 w _ _)
 have hbw:Below w.heap.size w w1:=(((Below.refl _ _).alloc (Nat.le_refl _) _).alloc (by simp) _).trans (hb.mono (by simp;omega))
 clear hb
 go_wp2_with (first|(refine wpList_store_row rfl 36 _ _ rfl w.heap.size #[.int .u64 (dg (k) 0),.int .u64 (dg (k) 1),.int .u64 (dg (k) 2),.int .u64 (dg (k) 3),.int .u64 (dg (k) 4),.int .u64 (dg (k) 5),.int .u64 (dg (k) 6),.int .u64 (dg (k) 7),.int .u64 (dg (k) 8),.int .u64 (dg (k) 9),.int .u64 (dg (k) 10),.int .u64 (dg (k) 11),.int .u64 (dg (k) 12),.int .u64 (dg (k) 13),.int .u64 (dg (k) 14),.int .u64 (dg (k) 15)] rfl rfl 36 _ rZ (by kernel_rfl) rfl (by kernel_rfl) ?_)|fail)
 exact bodyPost_ret (v:=.agg #[.int .u64 (dg (k) 0),.int .u64 (dg (k) 1),.int .u64 (dg (k) 2),.int .u64 (dg (k) 3),.int .u64 (dg (k) 4),.int .u64 (dg (k) 5),.int .u64 (dg (k) 6),.int .u64 (dg (k) 7),.int .u64 (dg (k) 8),.int .u64 (dg (k) 9),.int .u64 (dg (k) 10),.int .u64 (dg (k) 11),.int .u64 (dg (k) 12),.int .u64 (dg (k) 13),.int .u64 (dg (k) 14),.int .u64 (dg (k) 15)]) (results_cell_row Tryd.results37 _ _ w.heap.size _ #[.int .u64 (dg (k) 0),.int .u64 (dg (k) 1),.int .u64 (dg (k) 2),.int .u64 (dg (k) 3),.int .u64 (dg (k) 4),.int .u64 (dg (k) 5),.int .u64 (dg (k) 6),.int .u64 (dg (k) 7),.int .u64 (dg (k) 8),.int .u64 (dg (k) 9),.int .u64 (dg (k) 10),.int .u64 (dg (k) 11),.int .u64 (dg (k) 12),.int .u64 (dg (k) 13),.int .u64 (dg (k) 14),.int .u64 (dg (k) 15)] _ _ rfl (setRow_heap _ _ _ _ _ _ rZ) Tryd.underlying36 rfl (by kernel_rfl)) rfl ⟨rfl,below_setRow hbw (by omega) _⟩
end Go.Proofs.YtdcpcdkbhgkmlaaDoor
