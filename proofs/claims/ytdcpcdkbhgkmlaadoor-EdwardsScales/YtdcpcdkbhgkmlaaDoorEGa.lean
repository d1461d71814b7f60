import Derived.Test.YtdcpcdkbhgkmlaaDoorProg
import Derived.WalkKit
import Derived.WalkSpells
import Derived.WalkLawsBesides
import Derived.Lib.QuietBelow
import Derived.BigQuiet
import Derived.Test.YtdcpcdkbhgkmlaaDoorEKa
import Derived.Test.YtdcpcdkbhgkmlaaDoorEMa
import Derived.Test.YtdcpcdkbhgkmlaaDoorRows
import Derived.Test.YtdcpcdkbhgkmlaaDoorEOpen
import Derived.ProofKit
import Derived.LaidMore
import Derived.OpenShut
import Derived.Stop.Joined
namespace Go.Proofs.YtdcpcdkbhgkmlaaDoor
set_option maxRecDepth 100000
open Go.RowKit Go.Sort
attribute [local go_sem] setCell_drewN alloc_drewN
def nr (i:Nat) (s:Int):Int:=match i with
 |0=>lb s 0+19*(s/57896044618658097711785492504343953926634992332820282019728792003956564819968)
 |j=>lb s j
theorem nr_bd (s:Int) (h0:0≤s) (h1:s<926336713898529563388567880069503262826159877325124512315660672063305037119488):(0≤nr 0 s∧nr 0 s<4503599627370496)∧(0≤nr 1 s∧nr 1 s<4503599627370496)∧(0≤nr 2 s∧nr 2 s<4503599627370496)∧(0≤nr 3 s∧nr 3 s<4503599627370496)∧(0≤nr 4 s∧nr 4 s<4503599627370496):=by
 have:=lb_bd s 0;have:=lb_bd s 1;have:=lb_bd s 2;have:=lb_bd s 3;have:=lb_bd s 4;simp only[nr];omega
theorem nr_val (s:Int):v5 (nr 0 s) (nr 1 s) (nr 2 s) (nr 3 s) (nr 4 s)%prm=s%prm:=by
 have e:v5 (nr 0 s) (nr 1 s) (nr 2 s) (nr 3 s) (nr 4 s)=s-prm*(s/57896044618658097711785492504343953926634992332820282019728792003956564819968):=by
  simp only[nr,lb,v5,prm,Int.pow_zero,Int.ediv_one,Int.pow_succ,Int.one_mul];omega
 rw[e,Int.sub_mul_emod_self_left]
theorem nr_of (s:Int) (e0:Int) (e1:Int) (e2:Int) (e3:Int) (e4:Int) (c:Int) (l0:0≤e0) (u0:e0<2251799813685248) (l1:0≤e1) (u1:e1<2251799813685248) (l2:0≤e2) (u2:e2<2251799813685248) (l3:0≤e3) (u3:e3<2251799813685248) (l4:0≤e4) (u4:e4<2251799813685248) (h:v5 e0 e1 e2 e3 e4+57896044618658097711785492504343953926634992332820282019728792003956564819968*c=s):e0+19*c=nr 0 s∧e1=nr 1 s∧e2=nr 2 s∧e3=nr 3 s∧e4=nr 4 s:=by
 simp only[nr,lb,Int.pow_zero,Int.ediv_one,Int.pow_succ,Int.one_mul];unfold v5 at h
 refine⟨?_,?_,?_,?_,?_⟩<;>omega
def Four (w:World):Prop:=3<w.heap.size∧w.cell? ⟨3,0,none⟩=some (.int .u64 9007199254740916)∧w.cell? ⟨3,1,none⟩=some (.int .u64 9007199254740988)∧w.cell? ⟨3,2,none⟩=some (.int .u64 9007199254740988)∧w.cell? ⟨3,3,none⟩=some (.int .u64 9007199254740988)∧w.cell? ⟨3,4,none⟩=some (.int .u64 9007199254740988)
theorem Four.below {w w':World} (h:Four w) (hb:Below w.heap.size w w'):Four w':=by
 obtain⟨h0,k0,k1,k2,k3,k4⟩:=h;exact⟨Nat.lt_of_lt_of_le h0 hb.size,(hb.cell (p:=⟨3,0,none⟩) h0).trans k0,(hb.cell (p:=⟨3,1,none⟩) h0).trans k1,(hb.cell (p:=⟨3,2,none⟩) h0).trans k2,(hb.cell (p:=⟨3,3,none⟩) h0).trans k3,(hb.cell (p:=⟨3,4,none⟩) h0).trans k4⟩
theorem astep (x c:Int) (l:0≤x) (u:x<36028797018963968) (lc:0≤c) (uc:c≤64):∃e c':Int,(x+c)/2251799813685248=c'∧bits .and .u64 (x+c) 2251799813685247=e∧Hid (e+2251799813685248*c'=x+c)∧0≤c'∧c'≤64∧0≤e∧e<2251799813685248:=by
 rw[and51 _ (by omega) (by omega)]
 exact⟨_,_,rfl,rfl,by unfold Hid;omega,by omega,by omega,by omega,by omega⟩
theorem astep0 (x:Int) (l:0≤x) (u:x<36028797018963968):∃e c':Int,x/2251799813685248=c'∧bits .and .u64 x 2251799813685247=e∧Hid (e+2251799813685248*c'=x)∧0≤c'∧c'≤64∧0≤e∧e<2251799813685248:=by
 rw[and51 _ (by omega) (by omega)]
 exact⟨_,_,rfl,rfl,by unfold Hid;omega,by omega,by omega,by omega,by omega⟩
set_option maxHeartbeats 4000000 in
theorem add_any (a0 a1 a2 a3 a4 b0 b1 b2 b3 b4:Int) (la0:0≤a0) (ua0:a0<4503599627370496) (la1:0≤a1) (ua1:a1<4503599627370496) (la2:0≤a2) (ua2:a2<4503599627370496) (la3:0≤a3) (ua3:a3<4503599627370496) (la4:0≤a4) (ua4:a4<4503599627370496) (lb0:0≤b0) (ub0:b0<4503599627370496) (lb1:0≤b1) (ub1:b1<4503599627370496) (lb2:0≤b2) (ub2:b2<4503599627370496) (lb3:0≤b3) (ub3:b3<4503599627370496) (lb4:0≤b4) (ub4:b4<4503599627370496) (w:World):
 Calls Tryd.prog 73 #[.agg #[.int .u64 a0,.int .u64 a1,.int .u64 a2,.int .u64 a3,.int .u64 a4],.agg #[.int .u64 b0,.int .u64 b1,.int .u64 b2,.int .u64 b3,.int .u64 b4]] w fun e w'=>e=.returned (.agg #[.int .u64 (nr 0 (v5 a0 a1 a2 a3 a4+v5 b0 b1 b2 b3 b4)),.int .u64 (nr 1 (v5 a0 a1 a2 a3 a4+v5 b0 b1 b2 b3 b4)),.int .u64 (nr 2 (v5 a0 a1 a2 a3 a4+v5 b0 b1 b2 b3 b4)),.int .u64 (nr 3 (v5 a0 a1 a2 a3 a4+v5 b0 b1 b2 b3 b4)),.int .u64 (nr 4 (v5 a0 a1 a2 a3 a4+v5 b0 b1 b2 b3 b4))])∧Below w.heap.size w w':=by
 go_enter Tryd.func73,Tryd.ntmps73
 go_wp2
 refine wp_loop_rounds 6 ?_;rw[rounds_succ]
 go_wp2
 go_quiet (fail)
 go_wp2
 obtain⟨e0,c0,hq,hr,H0,lc0,uc0,le0,ue0⟩:=astep0 (a0+b0) (by omega) (by omega)
 rw[hq,hr];clear hq hr;rw[rounds_succ]
 go_wp2
 go_quiet (fail)
 go_wp2
 obtain⟨e1,c1,hq,hr,H1,lc1,uc1,le1,ue1⟩:=astep (a1+b1) c0 (by omega) (by omega) lc0 uc0
 rw[hq,hr];clear hq hr;rw[rounds_succ]
 go_wp2
 go_quiet (fail)
 go_wp2
 obtain⟨e2,c2,hq,hr,H2,lc2,uc2,le2,ue2⟩:=astep (a2+b2) c1 (by omega) (by omega) lc1 uc1
 rw[hq,hr];clear hq hr;rw[rounds_succ]
 go_wp2
 go_quiet (fail)
 go_wp2
 obtain⟨e3,c3,hq,hr,H3,lc3,uc3,le3,ue3⟩:=astep (a3+b3) c2 (by omega) (by omega) lc2 uc2
 rw[hq,hr];clear hq hr;rw[rounds_succ]
 go_wp2
 go_quiet (fail)
 go_wp2
 obtain⟨e4,c4,hq,hr,H4,lc4,uc4,le4,ue4⟩:=astep (a4+b4) c3 (by omega) (by omega) lc3 uc3
 rw[hq,hr];clear hq hr;rw[rounds_succ]
 go_wp2_with (first|(refine wpList_load_row rfl 28 _ rfl (w.heap.size+1+1+1) rfl 28 #[.int .u64 (e0+19*c4),.int .u64 e1,.int .u64 e2,.int .u64 e3,.int .u64 e4] (0,0) _ (by rw[World.heap_drewN,hp4_3]) Tryd.underlying28 rfl (by kernel_rfl) ?_)|(refine wpList_store_row rfl 28 _ _ rfl (w.heap.size+1+1) #[.int .u64 (e0+19*c4),.int .u64 e1,.int .u64 e2,.int .u64 e3,.int .u64 e4] rfl rfl 28 #[.int .u64 0,.int .u64 0,.int .u64 0,.int .u64 0,.int .u64 0] (by rw[World.heap_drewN,hp4_2]) (by kernel_rfl) rfl (by kernel_rfl) ?_;rw[setRow_drewN,setRow_alloc_old _ _ _ _ (by simp),setRow_alloc_new _ _ _ _ _ _ (by simp)]))
 have hv:v5 e0 e1 e2 e3 e4+57896044618658097711785492504343953926634992332820282019728792003956564819968*c4=v5 a0 a1 a2 a3 a4+v5 b0 b1 b2 b3 b4:=by
  have h0:=H0.out;have h1:=H1.out;have h2:=H2.out;have h3:=H3.out;have h4:=H4.out;simp only[v5];omega
 obtain⟨q0,q1,q2,q3,q4⟩:=nr_of (v5 a0 a1 a2 a3 a4+v5 b0 b1 b2 b3 b4) e0 e1 e2 e3 e4 c4 le0 ue0 le1 ue1 le2 ue2 le3 ue3 le4 ue4 hv
 refine bodyPost_ret (v:=.agg #[.int .u64 (e0+19*c4),.int .u64 e1,.int .u64 e2,.int .u64 e3,.int .u64 e4]) (results_cell_row Tryd.results73 _ _ (w.heap.size+1+1) _ #[.int .u64 (e0+19*c4),.int .u64 e1,.int .u64 e2,.int .u64 e3,.int .u64 e4] _ _ rfl (by rw[World.heap_drewN,hp4_2]) Tryd.underlying28 rfl (by kernel_rfl)) rfl ⟨?_,below_drN (((((Below.refl _ _).alloc (Nat.le_refl _) _).alloc (by simp) _).alloc (by simp;omega) _).alloc (by simp;omega) _) _⟩
 rw[←q0,←q1,←q2,←q3,←q4]
set_option maxHeartbeats 4000000 in
theorem sub_any (a0 a1 a2 a3 a4 b0 b1 b2 b3 b4:Int) (la0:0≤a0) (ua0:a0<4503599627370496) (la1:0≤a1) (ua1:a1<4503599627370496) (la2:0≤a2) (ua2:a2<4503599627370496) (la3:0≤a3) (ua3:a3<4503599627370496) (la4:0≤a4) (ua4:a4<4503599627370496) (lb0:0≤b0) (ub0:b0<4503599627370496) (lb1:0≤b1) (ub1:b1<4503599627370496) (lb2:0≤b2) (ub2:b2<4503599627370496) (lb3:0≤b3) (ub3:b3<4503599627370496) (lb4:0≤b4) (ub4:b4<4503599627370496) (w:World) (h4:Four w):
 Calls Tryd.prog 78 #[.agg #[.int .u64 a0,.int .u64 a1,.int .u64 a2,.int .u64 a3,.int .u64 a4],.agg #[.int .u64 b0,.int .u64 b1,.int .u64 b2,.int .u64 b3,.int .u64 b4]] w fun e w'=>e=.returned (.agg #[.int .u64 (nr 0 (v5 a0 a1 a2 a3 a4+231584178474632390847141970017375815706539969331281128078915168015826259279796-v5 b0 b1 b2 b3 b4)),.int .u64 (nr 1 (v5 a0 a1 a2 a3 a4+231584178474632390847141970017375815706539969331281128078915168015826259279796-v5 b0 b1 b2 b3 b4)),.int .u64 (nr 2 (v5 a0 a1 a2 a3 a4+231584178474632390847141970017375815706539969331281128078915168015826259279796-v5 b0 b1 b2 b3 b4)),.int .u64 (nr 3 (v5 a0 a1 a2 a3 a4+231584178474632390847141970017375815706539969331281128078915168015826259279796-v5 b0 b1 b2 b3 b4)),.int .u64 (nr 4 (v5 a0 a1 a2 a3 a4+231584178474632390847141970017375815706539969331281128078915168015826259279796-v5 b0 b1 b2 b3 b4))])∧Below w.heap.size w w':=by
 obtain⟨hz,k0,k1,k2,k3,k4⟩:=h4
 have hz_0:0<w.heap.size:=by omega
 have hz_1:1<w.heap.size:=by omega
 have hz_2:2<w.heap.size:=by omega
 have hzn_0:¬w.heap.size=0:=by omega
 have hzn_1:¬w.heap.size=1:=by omega
 have hzn_2:¬w.heap.size=2:=by omega
 have hzn_3:¬w.heap.size=3:=by omega
 have hzm_0:¬0=w.heap.size:=by omega
 have hzm_1:¬1=w.heap.size:=by omega
 have hzm_2:¬2=w.heap.size:=by omega
 have hzm_3:¬3=w.heap.size:=by omega
 have hzl_1:1≤w.heap.size:=by omega
 have hzl_2:2≤w.heap.size:=by omega
 have hzl_3:3≤w.heap.size:=by omega
 have hzp_1:3<w.heap.size+1:=by omega
 have hzp_2:3<w.heap.size+1+1:=by omega
 have hzp_3:3<w.heap.size+1+1+1:=by omega
 have hzp_4:3<w.heap.size+1+1+1+1:=by omega
 have hzq_1:¬3=w.heap.size+1:=by omega
 have hzq_2:¬3=w.heap.size+1+1:=by omega
 have hzq_3:¬3=w.heap.size+1+1+1:=by omega
 have hzq_4:¬3=w.heap.size+1+1+1+1:=by omega
 have hzr_1:¬w.heap.size+1=3:=by omega
 have hzr_2:¬w.heap.size+1+1=3:=by omega
 have hzr_3:¬w.heap.size+1+1+1=3:=by omega
 have hzr_4:¬w.heap.size+1+1+1+1=3:=by omega
 go_enter Tryd.func78,Tryd.ntmps78
 go_wp2
 refine wp_loop_rounds 6 ?_;rw[rounds_succ]
 go_wp2
 go_quiet (fail)
 go_wp2
 obtain⟨e0,c0,hq,hr,H0,lc0,uc0,le0,ue0⟩:=astep0 (a0+9007199254740916-b0) (by omega) (by omega)
 rw[hq,hr];clear hq hr;rw[rounds_succ]
 go_wp2
 go_quiet (fail)
 go_wp2
 obtain⟨e1,c1,hq,hr,H1,lc1,uc1,le1,ue1⟩:=astep (a1+9007199254740988-b1) c0 (by omega) (by omega) lc0 uc0
 rw[hq,hr];clear hq hr;rw[rounds_succ]
 go_wp2
 go_quiet (fail)
 go_wp2
 obtain⟨e2,c2,hq,hr,H2,lc2,uc2,le2,ue2⟩:=astep (a2+9007199254740988-b2) c1 (by omega) (by omega) lc1 uc1
 rw[hq,hr];clear hq hr;rw[rounds_succ]
 go_wp2
 go_quiet (fail)
 go_wp2
 obtain⟨e3,c3,hq,hr,H3,lc3,uc3,le3,ue3⟩:=astep (a3+9007199254740988-b3) c2 (by omega) (by omega) lc2 uc2
 rw[hq,hr];clear hq hr;rw[rounds_succ]
 go_wp2
 go_quiet (fail)
 go_wp2
 obtain⟨e4,c4,hq,hr,H4,lc4,uc4,le4,ue4⟩:=astep (a4+9007199254740988-b4) c3 (by omega) (by omega) lc3 uc3
 rw[hq,hr];clear hq hr;rw[rounds_succ]
 go_wp2_with (first|(refine wpList_load_row rfl 28 _ rfl (w.heap.size+1+1+1) rfl 28 #[.int .u64 (e0+19*c4),.int .u64 e1,.int .u64 e2,.int .u64 e3,.int .u64 e4] (0,0) _ (by rw[World.heap_drewN,hp4_3]) Tryd.underlying28 rfl (by kernel_rfl) ?_)|(refine wpList_store_row rfl 28 _ _ rfl (w.heap.size+1+1) #[.int .u64 (e0+19*c4),.int .u64 e1,.int .u64 e2,.int .u64 e3,.int .u64 e4] rfl rfl 28 #[.int .u64 0,.int .u64 0,.int .u64 0,.int .u64 0,.int .u64 0] (by rw[World.heap_drewN,hp4_2]) (by kernel_rfl) rfl (by kernel_rfl) ?_;rw[setRow_drewN,setRow_alloc_old _ _ _ _ (by simp),setRow_alloc_new _ _ _ _ _ _ (by simp)]))
 have hv:v5 e0 e1 e2 e3 e4+57896044618658097711785492504343953926634992332820282019728792003956564819968*c4=v5 a0 a1 a2 a3 a4+231584178474632390847141970017375815706539969331281128078915168015826259279796-v5 b0 b1 b2 b3 b4:=by
  have h0:=H0.out;have h1:=H1.out;have h2:=H2.out;have h3:=H3.out;have h4:=H4.out;simp only[v5];omega
 obtain⟨q0,q1,q2,q3,q4⟩:=nr_of (v5 a0 a1 a2 a3 a4+231584178474632390847141970017375815706539969331281128078915168015826259279796-v5 b0 b1 b2 b3 b4) e0 e1 e2 e3 e4 c4 le0 ue0 le1 ue1 le2 ue2 le3 ue3 le4 ue4 hv
 refine bodyPost_ret (v:=.agg #[.int .u64 (e0+19*c4),.int .u64 e1,.int .u64 e2,.int .u64 e3,.int .u64 e4]) (results_cell_row Tryd.results78 _ _ (w.heap.size+1+1) _ #[.int .u64 (e0+19*c4),.int .u64 e1,.int .u64 e2,.int .u64 e3,.int .u64 e4] _ _ rfl (by rw[World.heap_drewN,hp4_2]) Tryd.underlying28 rfl (by kernel_rfl)) rfl ⟨?_,below_drN (((((Below.refl _ _).alloc (Nat.le_refl _) _).alloc (by simp) _).alloc (by simp;omega) _).alloc (by simp;omega) _) _⟩
 rw[←q0,←q1,←q2,←q3,←q4]
end Go.Proofs.YtdcpcdkbhgkmlaaDoor
namespace Go.Proofs.YtdcpcdkbhgkmlaaDoor
set_option maxRecDepth 100000
open Go.ChangeShapes Go.WideShapes Go.ChangeAt Go.WideMaps Go.WideElems Go.RowKit
theorem gFour : Tryd.prog.globalNamed "pawl/field.fourfold" = some 3 := by kernel_rfl
theorem tFour:(Tryd.prog.globals[3]?).map (·.type)=some 26:=by kernel_rfl
theorem c1:Tryd.prog.cellsOf 25=1:=by kernel_rfl
theorem c5:Tryd.prog.cellsOf 26=5:=by kernel_rfl
theorem row5_of {P:Program} {t e:TypeId} (ht:P.underlying t=some (.array 5 e)) (he:P.underlying e=some (.int .u64)) (c1:P.cellsOf e=1) (c5:P.cellsOf t=5) {W:World} {m:Nat} {cs:Array Value} {p:List MemPlace} {k0 k1 k2 k3 k4:Int}
 (h:DataW.trod (fun _=>()) P W 0 (fun _=>true) false m t cs.toList=some (.agg [.lit (.int .u64 k0),.lit (.int .u64 k1),.lit (.int .u64 k2),.lit (.int .u64 k3),.lit (.int .u64 k4)],p)):
 cs=#[.int .u64 k0,.int .u64 k1,.int .u64 k2,.int .u64 k3,.int .u64 k4]:=by
 obtain⟨xs,m1,rfl,hx1,hlen,hn3,hel⟩:=DataW.trod_array ht h;rw[c5] at hlen
 have e0:=hel 0 (by decide);have e1:=hel 1 (by decide);have e2:=hel 2 (by decide);have e3:=hel 3 (by decide);have e4:=hel 4 (by decide)
 rw[c1] at e0 e1 e2 e3 e4;obtain⟨l⟩:=cs;simp only[Prod.mk.injEq,DataW.agg.injEq] at hx1
 match xs,hn3,hx1,l,hlen,e0,e1,e2,e3,e4 with
 |[x0,x1,x2,x3,x4],_,hx1,[d0,d1,d2,d3,d4],_,e0,e1,e2,e3,e4=>
  simp only[List.map_cons,List.map_nil,List.cons.injEq] at hx1;obtain⟨⟨h0,h1,h2,h3,h4,_⟩,_⟩:=hx1
  have key:∀(d:Value) (x:DataW Unit×List MemPlace) (k:Int),DataW.trod (fun _=>()) P W 0 (fun _=>true) false m1 e [d]=some x→.lit (.int .u64 k)=x.1→d=.int .u64 k:=by
   intro d x k ee hx;obtain⟨a,q1,q2,_⟩:=DataW.trod_int he ee;rw[q2] at hx
   simp at hx q1
   rw[q1,hx]
  rw[key d0 x0 k0 e0 h0,key d1 x1 k1 e1 h1,key d2 x2 k2 e2 h2,key d3 x3 k3 e3 h3,key d4 x4 k4 e4 h4]
theorem four_of_cells {W : World} (hv : World.var? Tryd.prog W "pawl/field.fourfold" = some #[.int .u64 9007199254740916, .int .u64 9007199254740988, .int .u64 9007199254740988, .int .u64 9007199254740988, .int .u64 9007199254740988]) : Four W := by
 have q:=fun i=>World.var?_cell gFour hv i
 have h0:3<W.heap.size:=by
  have:=q 0
  rcases Nat.lt_or_ge 3 W.heap.size with h|h
  ·exact h
  ·have h':W.heap[3]? =none:=Array.getElem?_eq_none h
   simp[World.cell?,h'] at this
 exact⟨h0,by simpa using q 0,by simpa using q 1,by simpa using q 2,by simpa using q 3,by simpa using q 4⟩
end Go.Proofs.YtdcpcdkbhgkmlaaDoor
namespace Go.Proofs.YtdcpcdkbhgkmlaaDoor
set_option maxRecDepth 100000
open Go.RowKit Go.Sort
attribute [local go_sem] setCell_drewN alloc_drewN
theorem v5_lb_mod (m:Int):v5 (lb m 0) (lb m 1) (lb m 2) (lb m 3) (lb m 4)=m%57896044618658097711785492504343953926634992332820282019728792003956564819968:=by
 unfold lb v5;simp only[Int.pow_zero,Int.ediv_one,Int.pow_succ,Int.one_mul];omega
theorem Tryd.infoU8:∃i,Tryd.prog.info? 5=some i:=by
 cases h:Tryd.prog.info? 5 with
 |some i=>exact⟨i,rfl⟩
 |none=>exact absurd (show(Tryd.prog.info? 5).isSome=true by kernel_rfl) (by rw[h];decide)
theorem Tryd.cellsU8:Tryd.prog.cellsOf 5=1:=by kernel_rfl
theorem keys_equal (x0 x1 x2 x3 x4 x5 x6 x7 x8 x9 x10 x11 x12 x13 x14 x15 x16 x17 x18 x19 x20 x21 x22 x23 x24 x25 x26 x27 x28 x29 x30 x31 y0 y1 y2 y3 y4 y5 y6 y7 y8 y9 y10 y11 y12 y13 y14 y15 y16 y17 y18 y19 y20 y21 y22 y23 y24 y25 y26 y27 y28 y29 y30 y31:Int) (W:World):(Op.equalIn 10000 23 (.agg #[.int .u8 x0,.int .u8 x1,.int .u8 x2,.int .u8 x3,.int .u8 x4,.int .u8 x5,.int .u8 x6,.int .u8 x7,.int .u8 x8,.int .u8 x9,.int .u8 x10,.int .u8 x11,.int .u8 x12,.int .u8 x13,.int .u8 x14,.int .u8 x15,.int .u8 x16,.int .u8 x17,.int .u8 x18,.int .u8 x19,.int .u8 x20,.int .u8 x21,.int .u8 x22,.int .u8 x23,.int .u8 x24,.int .u8 x25,.int .u8 x26,.int .u8 x27,.int .u8 x28,.int .u8 x29,.int .u8 x30,.int .u8 x31]) (.agg #[.int .u8 y0,.int .u8 y1,.int .u8 y2,.int .u8 y3,.int .u8 y4,.int .u8 y5,.int .u8 y6,.int .u8 y7,.int .u8 y8,.int .u8 y9,.int .u8 y10,.int .u8 y11,.int .u8 y12,.int .u8 y13,.int .u8 y14,.int .u8 y15,.int .u8 y16,.int .u8 y17,.int .u8 y18,.int .u8 y19,.int .u8 y20,.int .u8 y21,.int .u8 y22,.int .u8 y23,.int .u8 y24,.int .u8 y25,.int .u8 y26,.int .u8 y27,.int .u8 y28,.int .u8 y29,.int .u8 y30,.int .u8 y31])).run Tryd.prog W=.ok (decide ([x0,x1,x2,x3,x4,x5,x6,x7,x8,x9,x10,x11,x12,x13,x14,x15,x16,x17,x18,x19,x20,x21,x22,x23,x24,x25,x26,x27,x28,x29,x30,x31]=[y0,y1,y2,y3,y4,y5,y6,y7,y8,y9,y10,y11,y12,y13,y14,y15,y16,y17,y18,y19,y20,y21,y22,y23,y24,y25,y26,y27,y28,y29,y30,y31])) W:=by
 obtain⟨i0,hi⟩:=Tryd.infoU8;exact run_equal_ints W Tryd.underlying23 Tryd.underlying5 hi Tryd.cellsU8 [x0,x1,x2,x3,x4,x5,x6,x7,x8,x9,x10,x11,x12,x13,x14,x15,x16,x17,x18,x19,x20,x21,x22,x23,x24,x25,x26,x27,x28,x29,x30,x31] [y0,y1,y2,y3,y4,y5,y6,y7,y8,y9,y10,y11,y12,y13,y14,y15,y16,y17,y18,y19,y20,y21,y22,y23,y24,y25,y26,y27,y28,y29,y30,y31] rfl rfl
end Go.Proofs.YtdcpcdkbhgkmlaaDoor
namespace Go.Proofs.YtdcpcdkbhgkmlaaDoor
set_option maxRecDepth 100000
open Go.RowKit Go.Sort
attribute [local go_sem] setCell_drewN alloc_drewN
set_option maxHeartbeats 1000000 in
theorem eight0 (b0 b1 b2 b3 b4 b5 b6 b7 b8 b9 b10 b11 b12 b13 b14 b15 b16 b17 b18 b19 b20 b21 b22 b23 b24 b25 b26 b27 b28 b29 b30 b31:Int) (lo0:0≤b0) (hi0:b0<256) (lo1:0≤b1) (hi1:b1<256) (lo2:0≤b2) (hi2:b2<256) (lo3:0≤b3) (hi3:b3<256) (lo4:0≤b4) (hi4:b4<256) (lo5:0≤b5) (hi5:b5<256) (lo6:0≤b6) (hi6:b6<256) (lo7:0≤b7) (hi7:b7<256) (w:World):
 Calls Tryd.prog 58 #[.agg #[.int .u8 b0,.int .u8 b1,.int .u8 b2,.int .u8 b3,.int .u8 b4,.int .u8 b5,.int .u8 b6,.int .u8 b7,.int .u8 b8,.int .u8 b9,.int .u8 b10,.int .u8 b11,.int .u8 b12,.int .u8 b13,.int .u8 b14,.int .u8 b15,.int .u8 b16,.int .u8 b17,.int .u8 b18,.int .u8 b19,.int .u8 b20,.int .u8 b21,.int .u8 b22,.int .u8 b23,.int .u8 b24,.int .u8 b25,.int .u8 b26,.int .u8 b27,.int .u8 b28,.int .u8 b29,.int .u8 b30,.int .u8 b31],.int .i64 0] w fun e w'=>e=.returned (.int .u64 (q8 b0 b1 b2 b3 b4 b5 b6 b7))∧Below w.heap.size w w':=by
 go_enter Tryd.func58,Tryd.ntmps58
 go_wp2
 refine wp_loop_rounds 9 ?_;rw[rounds_succ];go_wp2;rw[rounds_succ];go_wp2;rw[rounds_succ];go_wp2;rw[rounds_succ];go_wp2;rw[rounds_succ];go_wp2;rw[rounds_succ];go_wp2;rw[rounds_succ];go_wp2;rw[rounds_succ];go_wp2;rw[rounds_succ];go_wp2;rw[q8_or b0 b1 b2 b3 b4 b5 b6 b7 ⟨lo0,hi0⟩ ⟨lo1,hi1⟩ ⟨lo2,hi2⟩ ⟨lo3,hi3⟩ ⟨lo4,hi4⟩ ⟨lo5,hi5⟩ ⟨lo6,hi6⟩ ⟨lo7,hi7⟩];go_ret;exact⟨rfl,(Below.refl _ _).alloc (Nat.le_refl _) _⟩
set_option maxHeartbeats 1000000 in
theorem eight8 (b0 b1 b2 b3 b4 b5 b6 b7 b8 b9 b10 b11 b12 b13 b14 b15 b16 b17 b18 b19 b20 b21 b22 b23 b24 b25 b26 b27 b28 b29 b30 b31:Int) (lo8:0≤b8) (hi8:b8<256) (lo9:0≤b9) (hi9:b9<256) (lo10:0≤b10) (hi10:b10<256) (lo11:0≤b11) (hi11:b11<256) (lo12:0≤b12) (hi12:b12<256) (lo13:0≤b13) (hi13:b13<256) (lo14:0≤b14) (hi14:b14<256) (lo15:0≤b15) (hi15:b15<256) (w:World):
 Calls Tryd.prog 58 #[.agg #[.int .u8 b0,.int .u8 b1,.int .u8 b2,.int .u8 b3,.int .u8 b4,.int .u8 b5,.int .u8 b6,.int .u8 b7,.int .u8 b8,.int .u8 b9,.int .u8 b10,.int .u8 b11,.int .u8 b12,.int .u8 b13,.int .u8 b14,.int .u8 b15,.int .u8 b16,.int .u8 b17,.int .u8 b18,.int .u8 b19,.int .u8 b20,.int .u8 b21,.int .u8 b22,.int .u8 b23,.int .u8 b24,.int .u8 b25,.int .u8 b26,.int .u8 b27,.int .u8 b28,.int .u8 b29,.int .u8 b30,.int .u8 b31],.int .i64 8] w fun e w'=>e=.returned (.int .u64 (q8 b8 b9 b10 b11 b12 b13 b14 b15))∧Below w.heap.size w w':=by
 go_enter Tryd.func58,Tryd.ntmps58
 go_wp2
 refine wp_loop_rounds 9 ?_;rw[rounds_succ];go_wp2;rw[rounds_succ];go_wp2;rw[rounds_succ];go_wp2;rw[rounds_succ];go_wp2;rw[rounds_succ];go_wp2;rw[rounds_succ];go_wp2;rw[rounds_succ];go_wp2;rw[rounds_succ];go_wp2;rw[rounds_succ];go_wp2;rw[q8_or b8 b9 b10 b11 b12 b13 b14 b15 ⟨lo8,hi8⟩ ⟨lo9,hi9⟩ ⟨lo10,hi10⟩ ⟨lo11,hi11⟩ ⟨lo12,hi12⟩ ⟨lo13,hi13⟩ ⟨lo14,hi14⟩ ⟨lo15,hi15⟩];go_ret;exact⟨rfl,(Below.refl _ _).alloc (Nat.le_refl _) _⟩
set_option maxHeartbeats 1000000 in
theorem eight16 (b0 b1 b2 b3 b4 b5 b6 b7 b8 b9 b10 b11 b12 b13 b14 b15 b16 b17 b18 b19 b20 b21 b22 b23 b24 b25 b26 b27 b28 b29 b30 b31:Int) (lo16:0≤b16) (hi16:b16<256) (lo17:0≤b17) (hi17:b17<256) (lo18:0≤b18) (hi18:b18<256) (lo19:0≤b19) (hi19:b19<256) (lo20:0≤b20) (hi20:b20<256) (lo21:0≤b21) (hi21:b21<256) (lo22:0≤b22) (hi22:b22<256) (lo23:0≤b23) (hi23:b23<256) (w:World):
 Calls Tryd.prog 58 #[.agg #[.int .u8 b0,.int .u8 b1,.int .u8 b2,.int .u8 b3,.int .u8 b4,.int .u8 b5,.int .u8 b6,.int .u8 b7,.int .u8 b8,.int .u8 b9,.int .u8 b10,.int .u8 b11,.int .u8 b12,.int .u8 b13,.int .u8 b14,.int .u8 b15,.int .u8 b16,.int .u8 b17,.int .u8 b18,.int .u8 b19,.int .u8 b20,.int .u8 b21,.int .u8 b22,.int .u8 b23,.int .u8 b24,.int .u8 b25,.int .u8 b26,.int .u8 b27,.int .u8 b28,.int .u8 b29,.int .u8 b30,.int .u8 b31],.int .i64 16] w fun e w'=>e=.returned (.int .u64 (q8 b16 b17 b18 b19 b20 b21 b22 b23))∧Below w.heap.size w w':=by
 go_enter Tryd.func58,Tryd.ntmps58
 go_wp2
 refine wp_loop_rounds 9 ?_;rw[rounds_succ];go_wp2;rw[rounds_succ];go_wp2;rw[rounds_succ];go_wp2;rw[rounds_succ];go_wp2;rw[rounds_succ];go_wp2;rw[rounds_succ];go_wp2;rw[rounds_succ];go_wp2;rw[rounds_succ];go_wp2;rw[rounds_succ];go_wp2;rw[q8_or b16 b17 b18 b19 b20 b21 b22 b23 ⟨lo16,hi16⟩ ⟨lo17,hi17⟩ ⟨lo18,hi18⟩ ⟨lo19,hi19⟩ ⟨lo20,hi20⟩ ⟨lo21,hi21⟩ ⟨lo22,hi22⟩ ⟨lo23,hi23⟩];go_ret;exact⟨rfl,(Below.refl _ _).alloc (Nat.le_refl _) _⟩
set_option maxHeartbeats 1000000 in
theorem eight24 (b0 b1 b2 b3 b4 b5 b6 b7 b8 b9 b10 b11 b12 b13 b14 b15 b16 b17 b18 b19 b20 b21 b22 b23 b24 b25 b26 b27 b28 b29 b30 b31:Int) (lo24:0≤b24) (hi24:b24<256) (lo25:0≤b25) (hi25:b25<256) (lo26:0≤b26) (hi26:b26<256) (lo27:0≤b27) (hi27:b27<256) (lo28:0≤b28) (hi28:b28<256) (lo29:0≤b29) (hi29:b29<256) (lo30:0≤b30) (hi30:b30<256) (lo31:0≤b31) (hi31:b31<256) (w:World):
 Calls Tryd.prog 58 #[.agg #[.int .u8 b0,.int .u8 b1,.int .u8 b2,.int .u8 b3,.int .u8 b4,.int .u8 b5,.int .u8 b6,.int .u8 b7,.int .u8 b8,.int .u8 b9,.int .u8 b10,.int .u8 b11,.int .u8 b12,.int .u8 b13,.int .u8 b14,.int .u8 b15,.int .u8 b16,.int .u8 b17,.int .u8 b18,.int .u8 b19,.int .u8 b20,.int .u8 b21,.int .u8 b22,.int .u8 b23,.int .u8 b24,.int .u8 b25,.int .u8 b26,.int .u8 b27,.int .u8 b28,.int .u8 b29,.int .u8 b30,.int .u8 b31],.int .i64 24] w fun e w'=>e=.returned (.int .u64 (q8 b24 b25 b26 b27 b28 b29 b30 b31))∧Below w.heap.size w w':=by
 go_enter Tryd.func58,Tryd.ntmps58
 go_wp2
 refine wp_loop_rounds 9 ?_;rw[rounds_succ];go_wp2;rw[rounds_succ];go_wp2;rw[rounds_succ];go_wp2;rw[rounds_succ];go_wp2;rw[rounds_succ];go_wp2;rw[rounds_succ];go_wp2;rw[rounds_succ];go_wp2;rw[rounds_succ];go_wp2;rw[rounds_succ];go_wp2;rw[q8_or b24 b25 b26 b27 b28 b29 b30 b31 ⟨lo24,hi24⟩ ⟨lo25,hi25⟩ ⟨lo26,hi26⟩ ⟨lo27,hi27⟩ ⟨lo28,hi28⟩ ⟨lo29,hi29⟩ ⟨lo30,hi30⟩ ⟨lo31,hi31⟩];go_ret;exact⟨rfl,(Below.refl _ _).alloc (Nat.le_refl _) _⟩
set_option maxHeartbeats 1000000 in
theorem from_any (b0 b1 b2 b3 b4 b5 b6 b7 b8 b9 b10 b11 b12 b13 b14 b15 b16 b17 b18 b19 b20 b21 b22 b23 b24 b25 b26 b27 b28 b29 b30 b31:Int) (lo0:0≤b0) (hi0:b0<256) (lo1:0≤b1) (hi1:b1<256) (lo2:0≤b2) (hi2:b2<256) (lo3:0≤b3) (hi3:b3<256) (lo4:0≤b4) (hi4:b4<256) (lo5:0≤b5) (hi5:b5<256) (lo6:0≤b6) (hi6:b6<256) (lo7:0≤b7) (hi7:b7<256) (lo8:0≤b8) (hi8:b8<256) (lo9:0≤b9) (hi9:b9<256) (lo10:0≤b10) (hi10:b10<256) (lo11:0≤b11) (hi11:b11<256) (lo12:0≤b12) (hi12:b12<256) (lo13:0≤b13) (hi13:b13<256) (lo14:0≤b14) (hi14:b14<256) (lo15:0≤b15) (hi15:b15<256) (lo16:0≤b16) (hi16:b16<256) (lo17:0≤b17) (hi17:b17<256) (lo18:0≤b18) (hi18:b18<256) (lo19:0≤b19) (hi19:b19<256) (lo20:0≤b20) (hi20:b20<256) (lo21:0≤b21) (hi21:b21<256) (lo22:0≤b22) (hi22:b22<256) (lo23:0≤b23) (hi23:b23<256) (lo24:0≤b24) (hi24:b24<256) (lo25:0≤b25) (hi25:b25<256) (lo26:0≤b26) (hi26:b26<256) (lo27:0≤b27) (hi27:b27<256) (lo28:0≤b28) (hi28:b28<256) (lo29:0≤b29) (hi29:b29<256) (lo30:0≤b30) (hi30:b30<256) (lo31:0≤b31) (hi31:b31<256) (w:World):
 Calls Tryd.prog 30 #[.agg #[.int .u8 b0,.int .u8 b1,.int .u8 b2,.int .u8 b3,.int .u8 b4,.int .u8 b5,.int .u8 b6,.int .u8 b7,.int .u8 b8,.int .u8 b9,.int .u8 b10,.int .u8 b11,.int .u8 b12,.int .u8 b13,.int .u8 b14,.int .u8 b15,.int .u8 b16,.int .u8 b17,.int .u8 b18,.int .u8 b19,.int .u8 b20,.int .u8 b21,.int .u8 b22,.int .u8 b23,.int .u8 b24,.int .u8 b25,.int .u8 b26,.int .u8 b27,.int .u8 b28,.int .u8 b29,.int .u8 b30,.int .u8 b31]] w fun e w'=>e=.returned (.agg #[.int .u64 (lb (kv b0 b1 b2 b3 b4 b5 b6 b7 b8 b9 b10 b11 b12 b13 b14 b15 b16 b17 b18 b19 b20 b21 b22 b23 b24 b25 b26 b27 b28 b29 b30 b31) 0),.int .u64 (lb (kv b0 b1 b2 b3 b4 b5 b6 b7 b8 b9 b10 b11 b12 b13 b14 b15 b16 b17 b18 b19 b20 b21 b22 b23 b24 b25 b26 b27 b28 b29 b30 b31) 1),.int .u64 (lb (kv b0 b1 b2 b3 b4 b5 b6 b7 b8 b9 b10 b11 b12 b13 b14 b15 b16 b17 b18 b19 b20 b21 b22 b23 b24 b25 b26 b27 b28 b29 b30 b31) 2),.int .u64 (lb (kv b0 b1 b2 b3 b4 b5 b6 b7 b8 b9 b10 b11 b12 b13 b14 b15 b16 b17 b18 b19 b20 b21 b22 b23 b24 b25 b26 b27 b28 b29 b30 b31) 3),.int .u64 (lb (kv b0 b1 b2 b3 b4 b5 b6 b7 b8 b9 b10 b11 b12 b13 b14 b15 b16 b17 b18 b19 b20 b21 b22 b23 b24 b25 b26 b27 b28 b29 b30 b31) 4)])∧Below w.heap.size w w':=by
 rw[kv_q8]
 have hB:∀W,(∃p:Regrown,W=grow (redrawn ((w.alloc (.cells #[.int .u8 b0,.int .u8 b1,.int .u8 b2,.int .u8 b3,.int .u8 b4,.int .u8 b5,.int .u8 b6,.int .u8 b7,.int .u8 b8,.int .u8 b9,.int .u8 b10,.int .u8 b11,.int .u8 b12,.int .u8 b13,.int .u8 b14,.int .u8 b15,.int .u8 b16,.int .u8 b17,.int .u8 b18,.int .u8 b19,.int .u8 b20,.int .u8 b21,.int .u8 b22,.int .u8 b23,.int .u8 b24,.int .u8 b25,.int .u8 b26,.int .u8 b27,.int .u8 b28,.int .u8 b29,.int .u8 b30,.int .u8 b31] 23)).alloc (.cells #[.int .u64 0,.int .u64 0,.int .u64 0,.int .u64 0,.int .u64 0] 28)) p.d) p.os)→W.heap[w.heap.size]? =some (.cells #[.int .u8 b0,.int .u8 b1,.int .u8 b2,.int .u8 b3,.int .u8 b4,.int .u8 b5,.int .u8 b6,.int .u8 b7,.int .u8 b8,.int .u8 b9,.int .u8 b10,.int .u8 b11,.int .u8 b12,.int .u8 b13,.int .u8 b14,.int .u8 b15,.int .u8 b16,.int .u8 b17,.int .u8 b18,.int .u8 b19,.int .u8 b20,.int .u8 b21,.int .u8 b22,.int .u8 b23,.int .u8 b24,.int .u8 b25,.int .u8 b26,.int .u8 b27,.int .u8 b28,.int .u8 b29,.int .u8 b30,.int .u8 b31] 23 (0,0)):=by
  rintro _ ⟨p,rfl⟩;exact((below_regrown _ p.d p.os).block _ (by simp;omega)).trans (hp2_0 w _ _)
 have d0:=q8_bd b0 b1 b2 b3 b4 b5 b6 b7 ⟨lo0,hi0⟩ ⟨lo1,hi1⟩ ⟨lo2,hi2⟩ ⟨lo3,hi3⟩ ⟨lo4,hi4⟩ ⟨lo5,hi5⟩ ⟨lo6,hi6⟩ ⟨lo7,hi7⟩;have d1:=q8_bd b8 b9 b10 b11 b12 b13 b14 b15 ⟨lo8,hi8⟩ ⟨lo9,hi9⟩ ⟨lo10,hi10⟩ ⟨lo11,hi11⟩ ⟨lo12,hi12⟩ ⟨lo13,hi13⟩ ⟨lo14,hi14⟩ ⟨lo15,hi15⟩;have d2:=q8_bd b16 b17 b18 b19 b20 b21 b22 b23 ⟨lo16,hi16⟩ ⟨lo17,hi17⟩ ⟨lo18,hi18⟩ ⟨lo19,hi19⟩ ⟨lo20,hi20⟩ ⟨lo21,hi21⟩ ⟨lo22,hi22⟩ ⟨lo23,hi23⟩;have d3:=q8_bd b24 b25 b26 b27 b28 b29 b30 b31 ⟨lo24,hi24⟩ ⟨lo25,hi25⟩ ⟨lo26,hi26⟩ ⟨lo27,hi27⟩ ⟨lo28,hi28⟩ ⟨lo29,hi29⟩ ⟨lo30,hi30⟩ ⟨lo31,hi31⟩
 have e0:=fun W=>eight0 b0 b1 b2 b3 b4 b5 b6 b7 b8 b9 b10 b11 b12 b13 b14 b15 b16 b17 b18 b19 b20 b21 b22 b23 b24 b25 b26 b27 b28 b29 b30 b31 lo0 hi0 lo1 hi1 lo2 hi2 lo3 hi3 lo4 hi4 lo5 hi5 lo6 hi6 lo7 hi7 W
 have e1:=fun W=>eight8 b0 b1 b2 b3 b4 b5 b6 b7 b8 b9 b10 b11 b12 b13 b14 b15 b16 b17 b18 b19 b20 b21 b22 b23 b24 b25 b26 b27 b28 b29 b30 b31 lo8 hi8 lo9 hi9 lo10 hi10 lo11 hi11 lo12 hi12 lo13 hi13 lo14 hi14 lo15 hi15 W
 have e2:=fun W=>eight16 b0 b1 b2 b3 b4 b5 b6 b7 b8 b9 b10 b11 b12 b13 b14 b15 b16 b17 b18 b19 b20 b21 b22 b23 b24 b25 b26 b27 b28 b29 b30 b31 lo16 hi16 lo17 hi17 lo18 hi18 lo19 hi19 lo20 hi20 lo21 hi21 lo22 hi22 lo23 hi23 W
 have e3:=fun W=>eight24 b0 b1 b2 b3 b4 b5 b6 b7 b8 b9 b10 b11 b12 b13 b14 b15 b16 b17 b18 b19 b20 b21 b22 b23 b24 b25 b26 b27 b28 b29 b30 b31 lo24 hi24 lo25 hi25 lo26 hi26 lo27 hi27 lo28 hi28 lo29 hi29 lo30 hi30 lo31 hi31 W
 clear lo0 hi0 lo1 hi1 lo2 hi2 lo3 hi3 lo4 hi4 lo5 hi5 lo6 hi6 lo7 hi7 lo8 hi8 lo9 hi9 lo10 hi10 lo11 hi11 lo12 hi12 lo13 hi13 lo14 hi14 lo15 hi15 lo16 hi16 lo17 hi17 lo18 hi18 lo19 hi19 lo20 hi20 lo21 hi21 lo22 hi22 lo23 hi23 lo24 hi24 lo25 hi25 lo26 hi26 lo27 hi27 lo28 hi28 lo29 hi29 lo30 hi30 lo31 hi31
 generalize q8 b0 b1 b2 b3 b4 b5 b6 b7=q0 at *
 generalize q8 b8 b9 b10 b11 b12 b13 b14 b15=q1 at *
 generalize q8 b16 b17 b18 b19 b20 b21 b22 b23=q2 at *
 generalize q8 b24 b25 b26 b27 b28 b29 b30 b31=q3 at *
 have E0:=hide e0;have E1:=hide e1;have E2:=hide e2;have E3:=hide e3;clear e0 e1 e2 e3;have HB:=hide hB;clear hB;obtain⟨l0,u0⟩:=d0;obtain⟨l1,u1⟩:=d1;obtain⟨l2,u2⟩:=d2;obtain⟨l3,u3⟩:=d3
 go_enter Tryd.func30,Tryd.ntmps30
 go_wp2
 refine wp_region_quiet_below (by kernel_rfl) (by kernel_rfl) ?_
 refine wpQuiet_load_row rfl 23 _ rfl w.heap.size rfl 23 #[.int .u8 b0,.int .u8 b1,.int .u8 b2,.int .u8 b3,.int .u8 b4,.int .u8 b5,.int .u8 b6,.int .u8 b7,.int .u8 b8,.int .u8 b9,.int .u8 b10,.int .u8 b11,.int .u8 b12,.int .u8 b13,.int .u8 b14,.int .u8 b15,.int .u8 b16,.int .u8 b17,.int .u8 b18,.int .u8 b19,.int .u8 b20,.int .u8 b21,.int .u8 b22,.int .u8 b23,.int .u8 b24,.int .u8 b25,.int .u8 b26,.int .u8 b27,.int .u8 b28,.int .u8 b29,.int .u8 b30,.int .u8 b31] (0,0) _ HB.out Tryd.underlying23 rfl (by kernel_rfl) ?_
 simp only[Act.put,ZPd,ZPe,ZPf];go_big_quiet_step (exact Calls.regrown_of (E0.out _))
 refine wpQuiet_load_row rfl 23 _ rfl w.heap.size rfl 23 #[.int .u8 b0,.int .u8 b1,.int .u8 b2,.int .u8 b3,.int .u8 b4,.int .u8 b5,.int .u8 b6,.int .u8 b7,.int .u8 b8,.int .u8 b9,.int .u8 b10,.int .u8 b11,.int .u8 b12,.int .u8 b13,.int .u8 b14,.int .u8 b15,.int .u8 b16,.int .u8 b17,.int .u8 b18,.int .u8 b19,.int .u8 b20,.int .u8 b21,.int .u8 b22,.int .u8 b23,.int .u8 b24,.int .u8 b25,.int .u8 b26,.int .u8 b27,.int .u8 b28,.int .u8 b29,.int .u8 b30,.int .u8 b31] (0,0) _ HB.out Tryd.underlying23 rfl (by kernel_rfl) ?_
 simp only[Act.put,ZPd,ZPe,ZPf];go_big_quiet_step (exact Calls.regrown_of (E1.out _))
 refine wpQuiet_load_row rfl 23 _ rfl w.heap.size rfl 23 #[.int .u8 b0,.int .u8 b1,.int .u8 b2,.int .u8 b3,.int .u8 b4,.int .u8 b5,.int .u8 b6,.int .u8 b7,.int .u8 b8,.int .u8 b9,.int .u8 b10,.int .u8 b11,.int .u8 b12,.int .u8 b13,.int .u8 b14,.int .u8 b15,.int .u8 b16,.int .u8 b17,.int .u8 b18,.int .u8 b19,.int .u8 b20,.int .u8 b21,.int .u8 b22,.int .u8 b23,.int .u8 b24,.int .u8 b25,.int .u8 b26,.int .u8 b27,.int .u8 b28,.int .u8 b29,.int .u8 b30,.int .u8 b31] (0,0) _ HB.out Tryd.underlying23 rfl (by kernel_rfl) ?_
 simp only[Act.put,ZPd,ZPe,ZPf];go_big_quiet_step (exact Calls.regrown_of (E2.out _))
 refine wpQuiet_load_row rfl 23 _ rfl w.heap.size rfl 23 #[.int .u8 b0,.int .u8 b1,.int .u8 b2,.int .u8 b3,.int .u8 b4,.int .u8 b5,.int .u8 b6,.int .u8 b7,.int .u8 b8,.int .u8 b9,.int .u8 b10,.int .u8 b11,.int .u8 b12,.int .u8 b13,.int .u8 b14,.int .u8 b15,.int .u8 b16,.int .u8 b17,.int .u8 b18,.int .u8 b19,.int .u8 b20,.int .u8 b21,.int .u8 b22,.int .u8 b23,.int .u8 b24,.int .u8 b25,.int .u8 b26,.int .u8 b27,.int .u8 b28,.int .u8 b29,.int .u8 b30,.int .u8 b31] (0,0) _ HB.out Tryd.underlying23 rfl (by kernel_rfl) ?_
 simp only[Act.put,ZPd,ZPe,ZPf];go_big_quiet_step (exact Calls.regrown_of (E3.out _))
 repeat (go_big_quiet_step (fail))
 refine wpQuiet_nil ?_;rintro _ ⟨p,rfl⟩;have hb:=below_regrown ((w.alloc (.cells #[.int .u8 b0,.int .u8 b1,.int .u8 b2,.int .u8 b3,.int .u8 b4,.int .u8 b5,.int .u8 b6,.int .u8 b7,.int .u8 b8,.int .u8 b9,.int .u8 b10,.int .u8 b11,.int .u8 b12,.int .u8 b13,.int .u8 b14,.int .u8 b15,.int .u8 b16,.int .u8 b17,.int .u8 b18,.int .u8 b19,.int .u8 b20,.int .u8 b21,.int .u8 b22,.int .u8 b23,.int .u8 b24,.int .u8 b25,.int .u8 b26,.int .u8 b27,.int .u8 b28,.int .u8 b29,.int .u8 b30,.int .u8 b31] 23)).alloc (.cells #[.int .u64 0,.int .u64 0,.int .u64 0,.int .u64 0,.int .u64 0] 28)) p.d p.os
 generalize grow (redrawn ((w.alloc (.cells #[.int .u8 b0,.int .u8 b1,.int .u8 b2,.int .u8 b3,.int .u8 b4,.int .u8 b5,.int .u8 b6,.int .u8 b7,.int .u8 b8,.int .u8 b9,.int .u8 b10,.int .u8 b11,.int .u8 b12,.int .u8 b13,.int .u8 b14,.int .u8 b15,.int .u8 b16,.int .u8 b17,.int .u8 b18,.int .u8 b19,.int .u8 b20,.int .u8 b21,.int .u8 b22,.int .u8 b23,.int .u8 b24,.int .u8 b25,.int .u8 b26,.int .u8 b27,.int .u8 b28,.int .u8 b29,.int .u8 b30,.int .u8 b31] 23)).alloc (.cells #[.int .u64 0,.int .u64 0,.int .u64 0,.int .u64 0,.int .u64 0] 28)) p.d) p.os=W1 at *
 have rZ:W1.heap[w.heap.size+1]? =some (.cells #[.int .u64 0,.int .u64 0,.int .u64 0,.int .u64 0,.int .u64 0] 28 (0,0)):=(hb.block _ (by simp)).trans (hp2_1 w _ _)
 have hbw:Below w.heap.size w W1:=(((Below.refl _ _).alloc (Nat.le_refl _) _).alloc (by simp) _).trans (hb.mono (by simp;omega))
 clear hb
 go_wp2_with (first|(refine wpList_store_row rfl 28 _ _ rfl (w.heap.size+1) _ rfl rfl 28 _ rZ (by kernel_rfl) rfl (by kernel_rfl) ?_)|fail)
 obtain⟨k0,k1,k2,k3,k4⟩:=from_limbs q0 q1 q2 q3 l0 u0 l1 u1 l2 u2 l3 u3;rw[k0,k1,k2,k3,k4]
 exact bodyPost_ret (v:=.agg #[.int .u64 (lb (q0+18446744073709551616*(q1+18446744073709551616*(q2+18446744073709551616*q3))) 0),.int .u64 (lb (q0+18446744073709551616*(q1+18446744073709551616*(q2+18446744073709551616*q3))) 1),.int .u64 (lb (q0+18446744073709551616*(q1+18446744073709551616*(q2+18446744073709551616*q3))) 2),.int .u64 (lb (q0+18446744073709551616*(q1+18446744073709551616*(q2+18446744073709551616*q3))) 3),.int .u64 (lb (q0+18446744073709551616*(q1+18446744073709551616*(q2+18446744073709551616*q3))) 4)]) (results_cell_row Tryd.results30 _ _ (w.heap.size+1) _ _ _ _ rfl (setRow_heap _ _ _ _ _ _ rZ) Tryd.underlying28 rfl (by kernel_rfl)) rfl ⟨rfl,below_setRow hbw (by omega) _⟩
end Go.Proofs.YtdcpcdkbhgkmlaaDoor
namespace Go.Proofs.YtdcpcdkbhgkmlaaDoor
set_option maxRecDepth 100000
open Go.RowKit Go.Sort
attribute [local go_sem] setCell_drewN alloc_drewN
theorem sstep (d c:Int) (l:0≤d) (u:d<4503599627370496) (lc:0≤c) (uc:c≤4096):∃e c':Int,(d+c)/2251799813685248=c'∧bits .and .u64 (d+c) 2251799813685247=e∧Hid (e+2251799813685248*c'=d+c)∧0≤c'∧c'≤4∧0≤e∧e<2251799813685248:=by
 rw[and51 _ (by omega) (by omega)]
 exact⟨_,_,rfl,rfl,by unfold Hid;omega,by omega,by omega,by omega,by omega⟩
set_option maxHeartbeats 1000000 in
theorem settled_any (a0 a1 a2 a3 a4 c:Int) (lo0:0≤a0) (hi0:a0<4503599627370496) (lo1:0≤a1) (hi1:a1<4503599627370496) (lo2:0≤a2) (hi2:a2<4503599627370496) (lo3:0≤a3) (hi3:a3<4503599627370496) (lo4:0≤a4) (hi4:a4<4503599627370496) (lc:0≤c) (uc:c≤4096) (w:World):
 Calls Tryd.prog 90 #[.agg #[.int .u64 a0,.int .u64 a1,.int .u64 a2,.int .u64 a3,.int .u64 a4],.int .u64 c] w fun r w'=>∃e0 e1 e2 e3 e4 o:Int,r=.returned (.tuple #[.agg #[.int .u64 e0,.int .u64 e1,.int .u64 e2,.int .u64 e3,.int .u64 e4],.int .u64 o])∧Below w.heap.size w w'∧((0≤e0∧e0<2251799813685248)∧(0≤e1∧e1<2251799813685248)∧(0≤e2∧e2<2251799813685248)∧(0≤e3∧e3<2251799813685248)∧(0≤e4∧e4<2251799813685248)∧0≤o∧o≤4)∧v5 e0 e1 e2 e3 e4+57896044618658097711785492504343953926634992332820282019728792003956564819968*o=v5 a0 a1 a2 a3 a4+c:=by
 go_enter Tryd.func90,Tryd.ntmps90
 go_wp2
 refine wp_loop_rounds 6 ?_;rw[rounds_succ]
 go_wp2
 obtain⟨e0,c0,hq,hr,H0,lc0,uc0,le0,ue0⟩:=sstep a0 c lo0 hi0 lc uc;rw[hq,hr];clear hq hr;rw[rounds_succ]
 go_wp2
 obtain⟨e1,c1,hq,hr,H1,lc1,uc1,le1,ue1⟩:=sstep a1 c0 lo1 hi1 lc0 (by omega)
 rw[hq,hr];clear hq hr;rw[rounds_succ]
 go_wp2
 obtain⟨e2,c2,hq,hr,H2,lc2,uc2,le2,ue2⟩:=sstep a2 c1 lo2 hi2 lc1 (by omega)
 rw[hq,hr];clear hq hr;rw[rounds_succ]
 go_wp2
 obtain⟨e3,c3,hq,hr,H3,lc3,uc3,le3,ue3⟩:=sstep a3 c2 lo3 hi3 lc2 (by omega)
 rw[hq,hr];clear hq hr;rw[rounds_succ]
 go_wp2
 obtain⟨e4,c4,hq,hr,H4,lc4,uc4,le4,ue4⟩:=sstep a4 c3 lo4 hi4 lc3 (by omega)
 rw[hq,hr];clear hq hr;rw[rounds_succ]
 go_wp2_with (first|(refine wpList_load_row rfl 26 _ rfl w.heap.size rfl 26 _ (0,0) _ (hp2_0 w _ _) Tryd.underlying26 rfl (by kernel_rfl) ?_)|(refine wpList_store_row rfl 26 _ _ rfl (w.heap.size+1) _ rfl rfl 26 _ (hp2_1 w _ _) (by kernel_rfl) rfl (by kernel_rfl) ?_;rw[setRow_alloc_new _ _ _ _ _ _ (by simp)]))
 refine bodyPost_ret (v:=.tuple #[.agg #[.int .u64 e0,.int .u64 e1,.int .u64 e2,.int .u64 e3,.int .u64 e4],.int .u64 c4]) (results_row_tmp Tryd.results90 _ _ (w.heap.size+1) _ _ _ _ _ rfl rfl (hp2_1 w _ _) Tryd.underlying26 rfl (by kernel_rfl)) rfl ⟨e0,e1,e2,e3,e4,c4,rfl,((Below.refl _ _).alloc (Nat.le_refl _) _).alloc (by simp) _,⟨⟨le0,ue0⟩,⟨le1,ue1⟩,⟨le2,ue2⟩,⟨le3,ue3⟩,⟨le4,ue4⟩,lc4,uc4⟩,?_⟩
 have h0:=H0.out;have h1:=H1.out;have h2:=H2.out;have h3:=H3.out;have h4:=H4.out;unfold v5;omega
theorem least_num (V U X Y t s o:Int) (hU0:0≤U) (hU1:U<57896044618658097711785492504343953926634992332820282019728792003956564819968) (hX0:0≤X) (hX1:X<57896044618658097711785492504343953926634992332820282019728792003956564819968) (hY0:0≤Y) (hY1:Y<57896044618658097711785492504343953926634992332820282019728792003956564819968) (ht0:0≤t) (hs0:0≤s) (ho0:0≤o) (ht:t≤4)
 (h1:U+57896044618658097711785492504343953926634992332820282019728792003956564819968*t=V) (h2:X+57896044618658097711785492504343953926634992332820282019728792003956564819968*s=U+(19*t+19)) (h3:Y+57896044618658097711785492504343953926634992332820282019728792003956564819968*o=U+19*(t+s)):Y=V%prm:=by
 have hs:s=0∨s=1:=by omega
 have ho:o=s:=by rcases hs with rfl|rfl<;>omega
 subst ho
 have hY:Y=V-57896044618658097711785492504343953926634992332820282019728792003956564819949*(t+o):=by omega
 have hY2:Y<57896044618658097711785492504343953926634992332820282019728792003956564819949:=by rcases hs with rfl|rfl<;>omega
 unfold prm;clear h1 h2 h3 hs
 generalize t+o=k at *
 omega
set_option maxHeartbeats 1000000 in
theorem least_any (a0 a1 a2 a3 a4:Int) (lo0:0≤a0) (hi0:a0<4503599627370496) (lo1:0≤a1) (hi1:a1<4503599627370496) (lo2:0≤a2) (hi2:a2<4503599627370496) (lo3:0≤a3) (hi3:a3<4503599627370496) (lo4:0≤a4) (hi4:a4<4503599627370496) (w:World):
 Calls Tryd.prog 59 #[.agg #[.int .u64 a0,.int .u64 a1,.int .u64 a2,.int .u64 a3,.int .u64 a4]] w fun r w'=>r=.returned (.agg #[.int .u64 (lb (v5 a0 a1 a2 a3 a4%prm) 0),.int .u64 (lb (v5 a0 a1 a2 a3 a4%prm) 1),.int .u64 (lb (v5 a0 a1 a2 a3 a4%prm) 2),.int .u64 (lb (v5 a0 a1 a2 a3 a4%prm) 3),.int .u64 (lb (v5 a0 a1 a2 a3 a4%prm) 4)])∧Below w.heap.size w w':=by
 go_enter Tryd.func59,Tryd.ntmps59
 go_wp2_with fail
 refine(settled_any a0 a1 a2 a3 a4 0 lo0 hi0 lo1 hi1 lo2 hi2 lo3 hi3 lo4 hi4 (by omega) (by omega) _).mono ?_
 rintro r w1 ⟨e0,e1,e2,e3,e4,t,rfl,hbt,⟨⟨le0,ue0⟩,⟨le1,ue1⟩,⟨le2,ue2⟩,⟨le3,ue3⟩,⟨le4,ue4⟩,lt,ut⟩,hvt⟩;have hs1:=hbt.size;simp only[World.size_alloc] at hs1;have HVt:=hide hvt;clear hvt
 have rZ1:w1.heap[w.heap.size+1]? =some (.cells #[.int .u64 0,.int .u64 0,.int .u64 0,.int .u64 0,.int .u64 0] 26 (0,0)):=(hbt.block _ (by simp)).trans (hp2_1 w _ _)
 have hbw1:Below w.heap.size w w1:=(((Below.refl _ _).alloc (Nat.le_refl _) _).alloc (by simp) _).trans (hbt.mono (by simp;omega))
 clear hbt
 go_wp2_with (first|(refine wpList_store_row rfl 26 _ _ rfl w1.heap.size #[.int .u64 e0,.int .u64 e1,.int .u64 e2,.int .u64 e3,.int .u64 e4] rfl rfl 26 _ (hp1_0 w1 _) (by kernel_rfl) rfl (by kernel_rfl) ?_;rw[setRow_alloc_new _ _ _ _ _ _ rfl])|(refine wpList_load_row rfl 26 _ rfl w1.heap.size rfl 26 #[.int .u64 e0,.int .u64 e1,.int .u64 e2,.int .u64 e3,.int .u64 e4] (0,0) _ (hp1_0 w1 _) Tryd.underlying26 rfl (by kernel_rfl) ?_)|fail)
 refine(settled_any e0 e1 e2 e3 e4 (19*t+19) le0 (by omega) le1 (by omega) le2 (by omega) le3 (by omega) le4 (by omega) (by omega) (by omega) _).mono ?_
 rintro r w2 ⟨f0,f1,f2,f3,f4,s,rfl,hbs,⟨⟨lf0,uf0⟩,⟨lf1,uf1⟩,⟨lf2,uf2⟩,⟨lf3,uf3⟩,⟨lf4,uf4⟩,ls,us⟩,hvs⟩;have hs2:=hbs.size;simp only[World.size_alloc] at hs2;have HVs:=hide hvs;clear hvs
 have r3:w2.heap[w1.heap.size]? =some (.cells #[.int .u64 e0,.int .u64 e1,.int .u64 e2,.int .u64 e3,.int .u64 e4] 26 (0,0)):=(hbs.block _ (by simp)).trans (hp1_0 w1 _)
 have rZ2:w2.heap[w.heap.size+1]? =some (.cells #[.int .u64 0,.int .u64 0,.int .u64 0,.int .u64 0,.int .u64 0] 26 (0,0)):=(hbs.block _ (by simp;omega)).trans ((Go.heap_alloc_old w1 _ (by omega)).trans rZ1)
 have hbw2:Below w.heap.size w w2:=hbw1.trans (((Below.refl w.heap.size w1).alloc (by omega) _).trans (hbs.mono (by simp;omega)))
 clear hbs hbw1 rZ1
 have r3o:=fun o=>(Go.heap_alloc_old w2 o (show w1.heap.size<w2.heap.size by omega)).trans r3
 go_wp2_with (first|(refine wpList_store_row rfl 26 _ _ rfl w2.heap.size #[.int .u64 f0,.int .u64 f1,.int .u64 f2,.int .u64 f3,.int .u64 f4] rfl rfl 26 _ (hp1_0 w2 _) (by kernel_rfl) rfl (by kernel_rfl) ?_;rw[setRow_alloc_new _ _ _ _ _ _ rfl])|(refine wpList_load_row rfl 26 _ rfl w1.heap.size rfl 26 #[.int .u64 e0,.int .u64 e1,.int .u64 e2,.int .u64 e3,.int .u64 e4] (0,0) _ (r3o _) Tryd.underlying26 rfl (by kernel_rfl) ?_)|fail)
 refine(settled_any e0 e1 e2 e3 e4 (19*(t+s)) le0 (by omega) le1 (by omega) le2 (by omega) le3 (by omega) le4 (by omega) (by omega) (by omega) _).mono ?_
 rintro r w3 ⟨g0,g1,g2,g3,g4,o,rfl,hbo,⟨⟨lg0,ug0⟩,⟨lg1,ug1⟩,⟨lg2,ug2⟩,⟨lg3,ug3⟩,⟨lg4,ug4⟩,lo,uo⟩,hvo⟩;have hs3:=hbo.size;simp only[World.size_alloc] at hs3;have HVo:=hide hvo;clear hvo
 have r33:w3.heap[w1.heap.size]? =some (.cells #[.int .u64 e0,.int .u64 e1,.int .u64 e2,.int .u64 e3,.int .u64 e4] 26 (0,0)):=(hbo.block _ (by simp;omega)).trans (r3o _)
 have rZ3:w3.heap[w.heap.size+1]? =some (.cells #[.int .u64 0,.int .u64 0,.int .u64 0,.int .u64 0,.int .u64 0] 26 (0,0)):=(hbo.block _ (by simp;omega)).trans ((Go.heap_alloc_old w2 _ (by omega)).trans rZ2)
 have hbw3:Below w.heap.size w w3:=hbw2.trans (((Below.refl w.heap.size w2).alloc (by omega) _).trans (hbo.mono (by simp;omega)))
 clear hbo hbw2 rZ2 r3o r3;have r34:=setRow_heap w3 _ _ #[.int .u64 g0,.int .u64 g1,.int .u64 g2,.int .u64 g3,.int .u64 g4] _ _ r33
 have rZ4:=(setRow_other w3 w1.heap.size (w.heap.size+1) #[.int .u64 g0,.int .u64 g1,.int .u64 g2,.int .u64 g3,.int .u64 g4] (by omega)).trans rZ3
 have hbw4:=below_setRow hbw3 (show w.heap.size≤w1.heap.size by omega) #[.int .u64 g0,.int .u64 g1,.int .u64 g2,.int .u64 g3,.int .u64 g4]
 have R33:=hide r33
 go_wp2_with (first|(refine wpList_store_row rfl 26 _ _ rfl w1.heap.size #[.int .u64 g0,.int .u64 g1,.int .u64 g2,.int .u64 g3,.int .u64 g4] rfl rfl 26 _ R33.out (by kernel_rfl) rfl (by kernel_rfl) ?_)|(refine wpList_load_row rfl 26 _ rfl w1.heap.size rfl 26 #[.int .u64 g0,.int .u64 g1,.int .u64 g2,.int .u64 g3,.int .u64 g4] (0,0) _ r34 Tryd.underlying26 rfl (by kernel_rfl) ?_)|(refine wpList_store_row rfl 26 _ _ rfl (w.heap.size+1) #[.int .u64 g0,.int .u64 g1,.int .u64 g2,.int .u64 g3,.int .u64 g4] rfl rfl 26 _ rZ4 (by kernel_rfl) rfl (by kernel_rfl) ?_)|fail)
 have hm:v5 g0 g1 g2 g3 g4=v5 a0 a1 a2 a3 a4%prm:=by
  have z1:=HVt.out;have z2:=HVs.out;have z3:=HVo.out
  refine least_num (v5 a0 a1 a2 a3 a4) (v5 e0 e1 e2 e3 e4) (v5 f0 f1 f2 f3 f4) (v5 g0 g1 g2 g3 g4) t s o ?_ ?_ ?_ ?_ ?_ ?_ lt ls lo ut (by omega) z2 z3
  all_goals (unfold v5;omega)
 obtain⟨k0,k1,k2,k3,k4⟩:=lb_v5 g0 g1 g2 g3 g4 lg0 ug0 lg1 ug1 lg2 ug2 lg3 ug3 lg4 ug4
 refine bodyPost_ret (v:=.agg #[.int .u64 g0,.int .u64 g1,.int .u64 g2,.int .u64 g3,.int .u64 g4]) (results_cell_row Tryd.results59 _ _ (w.heap.size+1) _ _ _ _ rfl (setRow_heap _ _ _ _ _ _ rZ4) Tryd.underlying26 rfl (by kernel_rfl)) rfl ⟨?_,below_setRow hbw4 (by omega) _⟩
 rw[←hm,k0,k1,k2,k3,k4]
end Go.Proofs.YtdcpcdkbhgkmlaaDoor
