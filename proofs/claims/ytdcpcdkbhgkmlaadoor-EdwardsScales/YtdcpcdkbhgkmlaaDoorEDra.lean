import Derived.Test.YtdcpcdkbhgkmlaaDoorProg
import Derived.WalkKit
import Derived.WalkSpells
import Derived.WalkLawsBesides
import Derived.Lib.QuietBelow
import Derived.BigQuiet
import Derived.Test.YtdcpcdkbhgkmlaaDoorEKa
import Derived.Test.YtdcpcdkbhgkmlaaDoorEDwe
import Derived.Test.YtdcpcdkbhgkmlaaDoorERs
import Derived.Test.YtdcpcdkbhgkmlaaDoorERp
namespace Go.Proofs.YtdcpcdkbhgkmlaaDoor
set_option maxRecDepth 100000
open Go.RowKit Go.Sort
attribute [local go_sem] setCell_drewN alloc_drewN
def r3 (a b c:Array Value):Array Value:=(a.toList++(b.toList++c.toList)).toArray
theorem r3_size {a b c:Array Value} (ha:a.size=16) (hb:b.size=16) (hc:c.size=16):(r3 a b c).size=48:=by simp[r3,ha,hb,hc]
theorem r3_one {a b c:Array Value} (ha:a.all (·.oneCell')=true) (hb:b.all (·.oneCell')=true) (hc:c.all (·.oneCell')=true):(r3 a b c).all (·.oneCell')=true:=by
 simp only[Array.all_eq_true_iff_forall_mem] at *
 intro v hv;simp only[r3,List.mem_toArray,List.mem_append,Array.mem_toList_iff] at hv
 rcases hv with h|h|h
 ·exact ha v h
 ·exact hb v h
 ·exact hc v h
theorem q3_0 {a b c:Array Value}:(r3 a b c).extract 0 (0+a.size)=a:=by
 apply Array.ext'
 simp[r3]
theorem q3_1 {a b c:Array Value} (ha:a.size=16):(r3 a b c).extract 16 (16+b.size)=b:=by
 rw[←ha]
 apply Array.ext'
 simp[r3]
theorem q3_2 {a b c:Array Value} (ha:a.size=16) (hb:b.size=16):(r3 a b c).extract 32 (32+c.size)=c:=by
 rw[show 32=a.size+b.size by omega]
 apply Array.ext'
 have:=drop_two a.toList b.toList c.toList
 simp[r3] at this⊢
 rw[this]
 exact List.take_of_length_le (by simp)
theorem q3_ty:(Tryd.prog.info? 38).map (·.size)=some 48:=by kernel_rfl
theorem q3_info {a b c:Array Value} (ha:a.size=16) (hb:b.size=16) (hc:c.size=16):(Tryd.prog.info? 38).map (·.size)=some (r3 a b c).size:=by rw[r3_size ha hb hc];exact q3_ty
theorem q3_inf {r:Array Value} (h:r.size=48):(Tryd.prog.info? 38).map (·.size)=some r.size:=by rw[h];exact q3_ty
theorem q3_built {a b c:Array Value} (ha:a.size=16) (hb:b.size=16) (hc:c.size=16):Tryd.prog.built 38 [(0,.agg a),(1,.agg b),(2,.agg c)]=some (r3 a b c):=by
 obtain⟨_,_,_,_,_,_,_,_,_,_,_,_,_,_,_,_,rfl⟩:=sixteen ha;obtain⟨_,_,_,_,_,_,_,_,_,_,_,_,_,_,_,_,rfl⟩:=sixteen hb;obtain⟨_,_,_,_,_,_,_,_,_,_,_,_,_,_,_,_,rfl⟩:=sixteen hc
 kernel_rfl
def Rp (P:E1) (X Y Z:Int):Prop:=¬Zp Z∧Zp (X-Z*tx P)∧Zp (Y-Z*P.y)
def RNum (r:Array Value) (x:Int):Prop:=∃m,r=rd m∧inP m∧m=x%prm
theorem RNum.size {r:Array Value} {x:Int} (h:RNum r x):r.size=16:=by obtain⟨m,rfl,_⟩:=h;exact rd_size m
theorem RNum.fits {r s:Array Value} {x:Int} (h:RNum r x) (hs:s.size=16):s.size=r.size:=hs.trans h.size.symm
theorem RNum.info {r:Array Value} {x:Int} (h:RNum r x):(Tryd.prog.info? 36).map (·.size)=some r.size:=by obtain⟨m,rfl,_⟩:=h;exact rd_info m
theorem RNum.one {r:Array Value} {x:Int} (h:RNum r x):r.all (·.oneCell')=true:=by obtain⟨m,rfl,_⟩:=h;exact rd_one m
theorem RNum.congr {r:Array Value} {x y:Int} (h:RNum r x) (e:x%prm=y%prm):RNum r y:=by obtain⟨m,rfl,a,b⟩:=h;exact⟨m,rfl,a,b.trans e⟩
theorem rnum_zero:RNum #[.int .u64 0,.int .u64 0,.int .u64 0,.int .u64 0,.int .u64 0,.int .u64 0,.int .u64 0,.int .u64 0,.int .u64 0,.int .u64 0,.int .u64 0,.int .u64 0,.int .u64 0,.int .u64 0,.int .u64 0,.int .u64 0] 0:=⟨0,by kernel_rfl,⟨by decide,by decide⟩,by decide⟩
theorem n_two {f:FuncId} {x y z:Int} (op:Int→Int→Int) (hc:∀m k,inP m→inP k→Gives f #[.agg (rd m),.agg (rd k)] (.agg (rd (op m k%prm)))) (he:op (x%prm) (y%prm)%prm=z%prm) {r s:Array Value} (h:RNum r x) (g:RNum s y):∃t,RNum t z∧Gives f #[.agg r,.agg s] (.agg t):=by
 obtain⟨m,rfl,a,rfl⟩:=h;obtain⟨k,rfl,b,rfl⟩:=g;exact⟨_,⟨_,rfl,inP_mod _,he⟩,hc _ _ a b⟩
theorem n_add {r s:Array Value} {x y:Int} (h:RNum r x) (g:RNum s y):∃t,RNum t (x+y)∧Gives 67 #[.agg r,.agg s] (.agg t):=n_two (· + ·) (fun _ _=>r_add) (by simp only[Int.add_emod,Int.emod_emod]) h g
theorem n_sub {r s:Array Value} {x y:Int} (h:RNum r x) (g:RNum s y):∃t,RNum t (x-y)∧Gives 68 #[.agg r,.agg s] (.agg t):=n_two (· - ·) (fun _ _=>r_sub) (by simp only[Int.sub_emod,Int.emod_emod]) h g
theorem n_mul {r s:Array Value} {x y:Int} (h:RNum r x) (g:RNum s y):∃t,RNum t (x*y)∧Gives 47 #[.agg r,.agg s] (.agg t):=n_two (· * ·) (fun _ _=>r_mul) (by simp only[Int.mul_emod,Int.emod_emod]) h g
theorem n_square {r:Array Value} {x:Int} (h:RNum r x):∃t,RNum t (x*x)∧Gives 66 #[.agg r] (.agg t):=by
 obtain⟨m,rfl,a,rfl⟩:=h
 exact⟨_,⟨_,rfl,inP_mod _,by simp only[Int.mul_emod,Int.emod_emod]⟩,r_square a⟩
theorem n_neg {r:Array Value} {x:Int} (h:RNum r x):∃t,RNum t (-x)∧Gives 71 #[.agg r] (.agg t):=by
 obtain⟨m,rfl,a,rfl⟩:=h
 exact⟨_,⟨_,rfl,inP_mod _,zp_sub.1 (zp_lin1 (-1) (zp_emod x) (by grind))⟩,r_neg a⟩
theorem n_small (x:Int) (l:0≤x) (u:x<18446744073709551616):∃t,RNum t x∧Gives 37 #[.int .u64 x] (.agg t):=
 ⟨_,⟨x,rfl,⟨l,Int.lt_trans u (by decide)⟩,(Int.emod_eq_of_lt l (Int.lt_trans u (by decide))).symm⟩,r_small x l u⟩
def ReO (r:Array Value) (P:E1):Prop:=∃xr yr zr X Y Z,r=r3 xr yr zr∧RNum xr X∧RNum yr Y∧RNum zr Z∧Rp P X Y Z
theorem ReO.size {r:Array Value} {P:E1} (h:ReO r P):r.size=48:=by
 obtain⟨xr,yr,zr,X,Y,Z,rfl,hx,hy,hz,_⟩:=h;exact r3_size hx.size hy.size hz.size
theorem ReO.info {r:Array Value} {P:E1} (h:ReO r P):(Tryd.prog.info? 38).map (·.size)=some r.size:=by rw[h.size];exact q3_ty
theorem ReO.one {r:Array Value} {P:E1} (h:ReO r P):r.all (·.oneCell')=true:=by
 obtain⟨xr,yr,zr,X,Y,Z,rfl,hx,hy,hz,_⟩:=h;exact r3_one hx.one hy.one hz.one
theorem rp_add {P Q:E1} {X1 Y1 Z1 X2 Y2 Z2 a b c d D e1 e f g u v k x1 X3 y1 s Y3 Z3:Int} (hP:Rp P X1 Y1 Z1) (hQ:Rp Q X2 Y2 Z2) (hD:Zp (D+ec1)) (za:Zp (a-Z1*Z2)) (zb:Zp (b-a*a)) (zc:Zp (c-X1*X2)) (zd:Zp (d-Y1*Y2)) (ze1:Zp (e1-D*c)) (ze2:Zp (e-e1*d)) (zf:Zp (f-(b-e))) (zg:Zp (g-(b+e))) (zu:Zp (u-X1*Y2)) (zv:Zp (v-Y1*X2)) (zk:Zp (k-(u+v))) (zx1:Zp (x1-a*f)) (zx:Zp (X3-x1*k)) (zy1:Zp (y1-a*g)) (zs:Zp (s-(d+c))) (zy:Zp (Y3-y1*s)) (zz:Zp (Z3-f*g)):Rp (pl P Q) X3 Y3 Z3:=by
 obtain⟨n1,a1,b1⟩:=hP;obtain⟨n2,a2,b2⟩:=hQ;have hx:=pl_x P Q;have hy:=pl_y P Q;have d1:=tw_den1 P Q;have d2:=tw_den2 P Q;have nm:¬Zp (Z1*Z2):=zp_ne_mul n1 n2
 generalize tx P=t1 at *
 generalize tx Q=t2 at *
 generalize htr:tx (pl P Q)=t3 at *
 generalize hyr:(pl P Q).y=y3 at *
 generalize P.y=p1 at *
 generalize Q.y=p2 at *
 generalize hm:Z1*Z2=m at *
 have c':Zp (c-m*(t1*t2)):=by rw[←hm];exact zp_lin3 1 X2 (Z1*t1) zc a1 a2 (by grind)
 have d':Zp (d-m*(p1*p2)):=by rw[←hm];exact zp_lin3 1 Y2 (Z1*p1) zd b1 b2 (by grind)
 have u':Zp (u-m*(t1*p2)):=by rw[←hm];exact zp_lin3 1 Y2 (Z1*t1) zu a1 b2 (by grind)
 have v':Zp (v-m*(p1*t2)):=by rw[←hm];exact zp_lin3 1 X2 (Z1*p1) zv b1 a2 (by grind)
 have k':Zp (k-m*(t1*p2+p1*t2)):=zp_lin3 1 1 1 zk u' v' (by grind)
 have s':Zp (s-m*(p1*p2+t1*t2)):=zp_lin3 1 1 1 zs d' c' (by grind)
 have b':Zp (b-m*m):=zp_lin2 1 (a+m) zb za (by grind)
 have e':Zp (e+m*m*(ec1*t1*t2*p1*p2)):=zp_lin5 1 d (d*c) (-(ec1*d)) (-(ec1*(m*(t1*t2)))) ze2 ze1 hD c' d' (by grind)
 have f':Zp (f-m*m*(1+ec1*t1*t2*p1*p2)):=zp_lin3 1 1 (-1) zf b' e' (by grind)
 have g':Zp (g-m*m*(1-ec1*t1*t2*p1*p2)):=zp_lin3 1 1 1 zg b' e' (by grind)
 have nf:¬Zp f:=zp_cg f' (zp_ne_mul (zp_ne_mul nm nm) d2);have ng':¬Zp g:=zp_cg g' (zp_ne_mul (zp_ne_mul nm nm) d1)
 generalize ec1*t1*t2*p1*p2=w at *
 have x':Zp (X3-m*f*k):=zp_lin3 1 k (f*k) zx zx1 za (by grind)
 have y':Zp (Y3-m*g*s):=zp_lin3 1 s (g*s) zy zy1 za (by grind)
 refine⟨zp_cg zz (zp_ne_mul nf ng'),?_,?_⟩
 ·rw[htr]
  exact zp_lin5 1 (m*f) (-(f*t3)) (-(m*m*f)) (-t3) x' k' g' hx zz (by grind)
 ·rw[hyr]
  exact zp_lin5 1 (m*g) (-(g*y3)) (-(m*m*g)) (-y3) y' s' f' hy zz (by grind)
theorem rp_x {P:E1} {X Y Z:Int} (h:Rp P X Y Z):X*iv Z%prm=tx P:=by
 obtain⟨n1,a1,b1⟩:=h;have h:=iv_mul n1;have hb:=tx_bd P
 generalize iv Z=z at *
 generalize tx P=t at *
 exact mod_of (zp_lin2 z t a1 h (by grind)) hb.1 hb.2
theorem rp_y {P:E1} {X Y Z:Int} (h:Rp P X Y Z):Y*iv Z%prm=P.y:=by
 obtain⟨n1,a1,b1⟩:=h;have h:=iv_mul n1
 generalize iv Z=z at *
 exact mod_of (zp_lin2 z P.y b1 h (by grind)) (y_bd P).1 (y_bd P).2
theorem rp_ze:Rp ze 0 1 1:=⟨zp_one,by rw[tx_ze];exact zp_zero,zp_zero⟩
theorem n_inv {r:Array Value} {x:Int} (h:RNum r x):∃t,RNum t (iv x)∧Gives 46 #[.agg r] (.agg t):=by
 obtain⟨m,rfl,a,rfl⟩:=h;have c:=r_invert a;exact⟨_,⟨_,rfl,inP_mod _,zp_sub.1 (iv_cong (zp_emod x))⟩,c⟩
theorem n_root {r:Array Value} {x:Int} (h:RNum r x):∃t,RNum t (rval x)∧Gives 69 #[.agg r] (.tuple #[.agg t,.bool (rok x)]):=by
 obtain⟨m,rfl,a,rfl⟩:=h;have c:=r_root a;rw[rok_c (Int.emod_emod x prm)] at c;exact⟨_,⟨_,rfl,inP_mod _,rval_c (Int.emod_emod x prm)⟩,c⟩
theorem n_isZero {r:Array Value} {x:Int} (h:RNum r x):Gives 70 #[.agg r] (.bool (decide (x%prm=0))):=by
 obtain⟨m,rfl,a,rfl⟩:=h;exact r_isZero a
theorem n_odd {r:Array Value} {x:Int} (h:RNum r x):Gives 48 #[.agg r] (.bool (decide (x%prm%2=1))):=by
 obtain⟨m,rfl,a,rfl⟩:=h;have:=r_odd (x%prm)
 generalize x%prm=m at *
 rw[show(dg m 0%2==1)=decide (m%2=1) by
  apply Bool.eq_iff_iff.2
  simp only[beq_iff_eq,decide_eq_true_iff,dg]
  omega] at this
 exact this
theorem n_bytes {r:Array Value} {x:Int} (h:RNum r x):Gives 34 #[.agg r] (.agg (kb (x%prm))):=by
 obtain⟨m,rfl,a,rfl⟩:=h;exact r_bytes _
theorem n_from {k:Array Value} {N:Int} (h:KeyOf k N):∃t,RNum t (N%57896044618658097711785492504343953926634992332820282019728792003956564819968)∧Gives 33 #[.agg k] (.agg t):=⟨_,⟨_,rfl,inP_mod _,rfl⟩,r_from h⟩
theorem zr (x:Int):Zp (x-x):=by rw[Int.sub_self];exact zp_zero
theorem D_ec:Zp (-121665*iv 121666+ec1):=by
 have h1:=ec1_eq;have h2:=iv_mul n121666
 generalize iv 121666=z at *
 generalize ec1=c at *
 exact zp_lin2 z (-c) h1 h2 (by grind)
set_option maxRecDepth 100000 in
set_option maxHeartbeats 8000000 in
theorem r_D:∃t,RNum t (-121665*iv 121666)∧Gives 44 #[] (.agg t):=by
 obtain⟨x1,h1,c1⟩:=n_small 121665 (by decide) (by decide)
 obtain⟨x3,h3,c3⟩:=n_neg h1
 obtain⟨x5,h5,c5⟩:=n_small 121666 (by decide) (by decide)
 obtain⟨x7,h7,c7⟩:=n_inv h5;obtain⟨x9,h9,c9⟩:=n_mul h3 h7
 refine⟨_,h9,fun w=>?_⟩
 go_enter Tryd.func44,Tryd.ntmps44
 iterate 6 go_step
 generalize hal_:(w.alloc (.cells #[.int .u64 0,.int .u64 0,.int .u64 0,.int .u64 0,.int .u64 0,.int .u64 0,.int .u64 0,.int .u64 0,.int .u64 0,.int .u64 0,.int .u64 0,.int .u64 0,.int .u64 0,.int .u64 0,.int .u64 0,.int .u64 0] 36))=w0
 have rp0:w0.heap[w.heap.size]? =some (.cells #[.int .u64 0,.int .u64 0,.int .u64 0,.int .u64 0,.int .u64 0,.int .u64 0,.int .u64 0,.int .u64 0,.int .u64 0,.int .u64 0,.int .u64 0,.int .u64 0,.int .u64 0,.int .u64 0,.int .u64 0,.int .u64 0] 36 (0,0)):=by rw[←hal_];exact hp1_0 w _
 have hw:Below w.heap.size w w0:=by rw[←hal_];exact((Below.refl _ _).alloc (Nat.le_refl _) _)
 clear hal_
 go_wp2_with (first|(refine wpList_load_want rfl 36 _ rfl (w.heap.size) rfl 36 #[.int .u64 0,.int .u64 0,.int .u64 0,.int .u64 0,.int .u64 0,.int .u64 0,.int .u64 0,.int .u64 0,.int .u64 0,.int .u64 0,.int .u64 0,.int .u64 0,.int .u64 0,.int .u64 0,.int .u64 0,.int .u64 0] (0,0) _ rp0 Tryd.underlying36 rfl rnum_zero.info ?_)|fail)
 refine(c1.at _).mono ?_;rintro e w2 ⟨rfl,hb⟩;replace rp0:=keep hb rp0;replace hw:=Below.after hw hb;clear hb
 go_wp2_with (first|(refine wpList_load_want rfl 36 _ rfl (w.heap.size) rfl 36 #[.int .u64 0,.int .u64 0,.int .u64 0,.int .u64 0,.int .u64 0,.int .u64 0,.int .u64 0,.int .u64 0,.int .u64 0,.int .u64 0,.int .u64 0,.int .u64 0,.int .u64 0,.int .u64 0,.int .u64 0,.int .u64 0] (0,0) _ rp0 Tryd.underlying36 rfl rnum_zero.info ?_)|fail)
 refine(c3.at _).mono ?_;rintro e w4 ⟨rfl,hb⟩;replace rp0:=keep hb rp0;replace hw:=Below.after hw hb;clear hb
 go_wp2_with (first|(refine wpList_load_want rfl 36 _ rfl (w.heap.size) rfl 36 #[.int .u64 0,.int .u64 0,.int .u64 0,.int .u64 0,.int .u64 0,.int .u64 0,.int .u64 0,.int .u64 0,.int .u64 0,.int .u64 0,.int .u64 0,.int .u64 0,.int .u64 0,.int .u64 0,.int .u64 0,.int .u64 0] (0,0) _ rp0 Tryd.underlying36 rfl rnum_zero.info ?_)|fail)
 refine(c5.at _).mono ?_;rintro e w6 ⟨rfl,hb⟩;replace rp0:=keep hb rp0;replace hw:=Below.after hw hb;clear hb
 go_wp2_with (first|(refine wpList_load_want rfl 36 _ rfl (w.heap.size) rfl 36 #[.int .u64 0,.int .u64 0,.int .u64 0,.int .u64 0,.int .u64 0,.int .u64 0,.int .u64 0,.int .u64 0,.int .u64 0,.int .u64 0,.int .u64 0,.int .u64 0,.int .u64 0,.int .u64 0,.int .u64 0,.int .u64 0] (0,0) _ rp0 Tryd.underlying36 rfl rnum_zero.info ?_)|fail)
 refine(c7.at _).mono ?_;rintro e w8 ⟨rfl,hb⟩;replace rp0:=keep hb rp0;replace hw:=Below.after hw hb;clear hb
 go_wp2_with (first|(refine wpList_load_want rfl 36 _ rfl (w.heap.size) rfl 36 #[.int .u64 0,.int .u64 0,.int .u64 0,.int .u64 0,.int .u64 0,.int .u64 0,.int .u64 0,.int .u64 0,.int .u64 0,.int .u64 0,.int .u64 0,.int .u64 0,.int .u64 0,.int .u64 0,.int .u64 0,.int .u64 0] (0,0) _ rp0 Tryd.underlying36 rfl rnum_zero.info ?_)|fail)
 refine(c9.at _).mono ?_;rintro e w10 ⟨rfl,hb⟩;replace rp0:=keep hb rp0;replace hw:=Below.after hw hb;clear hb
 go_wp2_with (first|(refine wpList_store_row rfl 36 _ _ rfl (w.heap.size) x9 rfl rfl 36 _ rp0 h9.info (rnum_zero.size.trans h9.size.symm) h9.one ?_)|(refine wpList_load_want rfl 36 _ rfl (w.heap.size) rfl 36 #[.int .u64 0,.int .u64 0,.int .u64 0,.int .u64 0,.int .u64 0,.int .u64 0,.int .u64 0,.int .u64 0,.int .u64 0,.int .u64 0,.int .u64 0,.int .u64 0,.int .u64 0,.int .u64 0,.int .u64 0,.int .u64 0] (0,0) _ rp0 Tryd.underlying36 rfl rnum_zero.info ?_)|fail)
 exact bodyPost_ret (v:=.agg x9) (results_cell_row Tryd.results44 _ _ (w.heap.size) _ x9 _ _ rfl (setRow_heap _ _ _ _ _ _ rp0) Tryd.underlying36 rfl h9.info) rfl ⟨rfl,below_setRow hw (by omega) _⟩
set_option maxRecDepth 100000 in
set_option maxHeartbeats 8000000 in
theorem r_Neutral:∃t,ReO t ze∧Gives 35 #[] (.agg t):=by
 obtain⟨o,ho,c1⟩:=n_small 1 (by decide) (by decide)
 refine⟨(r3 #[.int .u64 0,.int .u64 0,.int .u64 0,.int .u64 0,.int .u64 0,.int .u64 0,.int .u64 0,.int .u64 0,.int .u64 0,.int .u64 0,.int .u64 0,.int .u64 0,.int .u64 0,.int .u64 0,.int .u64 0,.int .u64 0] o o),⟨#[.int .u64 0,.int .u64 0,.int .u64 0,.int .u64 0,.int .u64 0,.int .u64 0,.int .u64 0,.int .u64 0,.int .u64 0,.int .u64 0,.int .u64 0,.int .u64 0,.int .u64 0,.int .u64 0,.int .u64 0,.int .u64 0],o,o,0,1,1,rfl,rnum_zero,ho,ho,rp_ze⟩,fun w=>?_⟩
 go_enter Tryd.func35,Tryd.ntmps35
 iterate 6 go_step
 generalize hal_:(w.alloc (.cells #[.int .u64 0,.int .u64 0,.int .u64 0,.int .u64 0,.int .u64 0,.int .u64 0,.int .u64 0,.int .u64 0,.int .u64 0,.int .u64 0,.int .u64 0,.int .u64 0,.int .u64 0,.int .u64 0,.int .u64 0,.int .u64 0,.int .u64 0,.int .u64 0,.int .u64 0,.int .u64 0,.int .u64 0,.int .u64 0,.int .u64 0,.int .u64 0,.int .u64 0,.int .u64 0,.int .u64 0,.int .u64 0,.int .u64 0,.int .u64 0,.int .u64 0,.int .u64 0,.int .u64 0,.int .u64 0,.int .u64 0,.int .u64 0,.int .u64 0,.int .u64 0,.int .u64 0,.int .u64 0,.int .u64 0,.int .u64 0,.int .u64 0,.int .u64 0,.int .u64 0,.int .u64 0,.int .u64 0,.int .u64 0] 38))=w0
 have rp0:w0.heap[w.heap.size]? =some (.cells #[.int .u64 0,.int .u64 0,.int .u64 0,.int .u64 0,.int .u64 0,.int .u64 0,.int .u64 0,.int .u64 0,.int .u64 0,.int .u64 0,.int .u64 0,.int .u64 0,.int .u64 0,.int .u64 0,.int .u64 0,.int .u64 0,.int .u64 0,.int .u64 0,.int .u64 0,.int .u64 0,.int .u64 0,.int .u64 0,.int .u64 0,.int .u64 0,.int .u64 0,.int .u64 0,.int .u64 0,.int .u64 0,.int .u64 0,.int .u64 0,.int .u64 0,.int .u64 0,.int .u64 0,.int .u64 0,.int .u64 0,.int .u64 0,.int .u64 0,.int .u64 0,.int .u64 0,.int .u64 0,.int .u64 0,.int .u64 0,.int .u64 0,.int .u64 0,.int .u64 0,.int .u64 0,.int .u64 0,.int .u64 0] 38 (0,0)):=by rw[←hal_];exact hp1_0 w _
 have hw:Below w.heap.size w w0:=by rw[←hal_];exact((Below.refl _ _).alloc (Nat.le_refl _) _)
 clear hal_
 go_wp2_with (first|(refine wpList_build_as rfl 36 _ rfl [] rfl #[.int .u64 0,.int .u64 0,.int .u64 0,.int .u64 0,.int .u64 0,.int .u64 0,.int .u64 0,.int .u64 0,.int .u64 0,.int .u64 0,.int .u64 0,.int .u64 0,.int .u64 0,.int .u64 0,.int .u64 0,.int .u64 0] (by kernel_rfl) ?_)|fail)
 refine(c1.at _).mono ?_;rintro e w1 ⟨rfl,hb⟩;replace rp0:=keep hb rp0;replace hw:=Below.after hw hb;clear hb
 go_wp2_with (fail)
 refine(c1.at _).mono ?_;rintro e w2 ⟨rfl,hb⟩;replace rp0:=keep hb rp0;replace hw:=Below.after hw hb;clear hb
 go_wp2_with (first|(refine wpList_build_as rfl 38 _ rfl [(0,.agg #[.int .u64 0,.int .u64 0,.int .u64 0,.int .u64 0,.int .u64 0,.int .u64 0,.int .u64 0,.int .u64 0,.int .u64 0,.int .u64 0,.int .u64 0,.int .u64 0,.int .u64 0,.int .u64 0,.int .u64 0,.int .u64 0]),(1,.agg o),(2,.agg o)] rfl (r3 #[.int .u64 0,.int .u64 0,.int .u64 0,.int .u64 0,.int .u64 0,.int .u64 0,.int .u64 0,.int .u64 0,.int .u64 0,.int .u64 0,.int .u64 0,.int .u64 0,.int .u64 0,.int .u64 0,.int .u64 0,.int .u64 0] o o) (q3_built rnum_zero.size ho.size ho.size) ?_)|(refine wpList_store_row rfl 38 _ _ rfl (w.heap.size) (r3 #[.int .u64 0,.int .u64 0,.int .u64 0,.int .u64 0,.int .u64 0,.int .u64 0,.int .u64 0,.int .u64 0,.int .u64 0,.int .u64 0,.int .u64 0,.int .u64 0,.int .u64 0,.int .u64 0,.int .u64 0,.int .u64 0] o o) rfl rfl 38 _ rp0 (q3_info rnum_zero.size ho.size ho.size) (r3_size rnum_zero.size ho.size ho.size).symm (r3_one rnum_zero.one ho.one ho.one) ?_)|fail)
 exact bodyPost_ret (v:=.agg (r3 #[.int .u64 0,.int .u64 0,.int .u64 0,.int .u64 0,.int .u64 0,.int .u64 0,.int .u64 0,.int .u64 0,.int .u64 0,.int .u64 0,.int .u64 0,.int .u64 0,.int .u64 0,.int .u64 0,.int .u64 0,.int .u64 0] o o)) (results_cell_row Tryd.results35 _ _ (w.heap.size) _ (r3 #[.int .u64 0,.int .u64 0,.int .u64 0,.int .u64 0,.int .u64 0,.int .u64 0,.int .u64 0,.int .u64 0,.int .u64 0,.int .u64 0,.int .u64 0,.int .u64 0,.int .u64 0,.int .u64 0,.int .u64 0,.int .u64 0] o o) _ _ rfl (setRow_heap _ _ _ _ _ _ rp0) Tryd.underlying38 rfl (q3_info rnum_zero.size ho.size ho.size)) rfl ⟨rfl,below_setRow hw (by omega) _⟩
set_option maxRecDepth 100000 in
set_option maxHeartbeats 8000000 in
theorem r_add19 {r s dr:Array Value} {P Q:E1} {D:Int} (hd:RNum dr D) (hde:Zp (D+ec1)) (h:ReO r P) (g:ReO s Q):∃t,ReO t (pl P Q)∧Gives 45 #[.agg r,.agg s,.agg dr] (.agg t):=by
 obtain⟨xr,yr,zr_,X1,Y1,Z1,rfl,hx1,hy1,hz1,hP⟩:=h;obtain⟨ur,vr,wr,X2,Y2,Z2,rfl,hx2,hy2,hz2,hQ⟩:=g;have pa0:=q3_0 (a:=xr) (b:=yr) (c:=zr_);have pa1:=q3_1 (b:=yr) (c:=zr_) hx1.size;have pa2:=q3_2 (c:=zr_) hx1.size hy1.size;have sza:=r3_size hx1.size hy1.size hz1.size;have ona:=r3_one hx1.one hy1.one hz1.one
 generalize r3 xr yr zr_=ra at *
 have pb0:=q3_0 (a:=ur) (b:=vr) (c:=wr);have pb1:=q3_1 (b:=vr) (c:=wr) hx2.size;have pb2:=q3_2 (c:=wr) hx2.size hy2.size;have szb:=r3_size hx2.size hy2.size hz2.size;have onb:=r3_one hx2.one hy2.one hz2.one
 generalize r3 ur vr wr=rb at *
 obtain⟨x1,h1,c1⟩:=n_mul hz1 hz2;obtain⟨x3,h3,c3⟩:=n_square h1;obtain⟨x6,h6,c6⟩:=n_mul hx1 hx2;obtain⟨x7,h7,c7⟩:=n_mul hy1 hy2;obtain⟨x12,h12,c12⟩:=n_mul hd h6;obtain⟨x13,h13,c13⟩:=n_mul h12 h7;obtain⟨x17,h17,c17⟩:=n_sub h3 h13;obtain⟨x18,h18,c18⟩:=n_add h3 h13;obtain⟨x23,h23,c23⟩:=n_mul hx1 hy2;obtain⟨x24,h24,c24⟩:=n_mul hy1 hx2;obtain⟨x25,h25,c25⟩:=n_add h23 h24;obtain⟨x28,h28,c28⟩:=n_mul h1 h17;obtain⟨x29,h29,c29⟩:=n_mul h28 h25;obtain⟨x30,h30,c30⟩:=n_mul h1 h18;obtain⟨x31,h31,c31⟩:=n_add h7 h6;obtain⟨x32,h32,c32⟩:=n_mul h30 h31;obtain⟨x33,h33,c33⟩:=n_mul h17 h18
 refine⟨_,⟨x29,x32,x33,_,_,_,rfl,h29,h32,h33,rp_add hP hQ hde (zr _) (zr _) (zr _) (zr _) (zr _) (zr _) (zr _) (zr _) (zr _) (zr _) (zr _) (zr _) (zr _) (zr _) (zr _) (zr _) (zr _)⟩,fun w=>?_⟩
 go_enter Tryd.func45,Tryd.ntmps45
 iterate 15 go_step
 generalize hal_:((((w.alloc (.cells ra 38)).alloc (.cells rb 38)).alloc (.cells dr 36)).alloc (.cells #[.int .u64 0,.int .u64 0,.int .u64 0,.int .u64 0,.int .u64 0,.int .u64 0,.int .u64 0,.int .u64 0,.int .u64 0,.int .u64 0,.int .u64 0,.int .u64 0,.int .u64 0,.int .u64 0,.int .u64 0,.int .u64 0,.int .u64 0,.int .u64 0,.int .u64 0,.int .u64 0,.int .u64 0,.int .u64 0,.int .u64 0,.int .u64 0,.int .u64 0,.int .u64 0,.int .u64 0,.int .u64 0,.int .u64 0,.int .u64 0,.int .u64 0,.int .u64 0,.int .u64 0,.int .u64 0,.int .u64 0,.int .u64 0,.int .u64 0,.int .u64 0,.int .u64 0,.int .u64 0,.int .u64 0,.int .u64 0,.int .u64 0,.int .u64 0,.int .u64 0,.int .u64 0,.int .u64 0,.int .u64 0] 38))=w0
 have rp0:w0.heap[w.heap.size]? =some (.cells ra 38 (0,0)):=by rw[←hal_];exact hp4_0 w _ _ _ _
 have rp1:w0.heap[w.heap.size+1]? =some (.cells rb 38 (0,0)):=by rw[←hal_];exact hp4_1 w _ _ _ _
 have rp2:w0.heap[w.heap.size+1+1]? =some (.cells dr 36 (0,0)):=by rw[←hal_];exact hp4_2 w _ _ _ _
 have rp3:w0.heap[w.heap.size+1+1+1]? =some (.cells #[.int .u64 0,.int .u64 0,.int .u64 0,.int .u64 0,.int .u64 0,.int .u64 0,.int .u64 0,.int .u64 0,.int .u64 0,.int .u64 0,.int .u64 0,.int .u64 0,.int .u64 0,.int .u64 0,.int .u64 0,.int .u64 0,.int .u64 0,.int .u64 0,.int .u64 0,.int .u64 0,.int .u64 0,.int .u64 0,.int .u64 0,.int .u64 0,.int .u64 0,.int .u64 0,.int .u64 0,.int .u64 0,.int .u64 0,.int .u64 0,.int .u64 0,.int .u64 0,.int .u64 0,.int .u64 0,.int .u64 0,.int .u64 0,.int .u64 0,.int .u64 0,.int .u64 0,.int .u64 0,.int .u64 0,.int .u64 0,.int .u64 0,.int .u64 0,.int .u64 0,.int .u64 0,.int .u64 0,.int .u64 0] 38 (0,0)):=by rw[←hal_];exact hp4_3 w _ _ _ _
 have hw:Below w.heap.size w w0:=by rw[←hal_];exact(((((Below.refl _ _).alloc (Nat.le_refl _) _).alloc (by simp) _).alloc (by simp;omega) _).alloc (by simp;omega) _)
 clear hal_
 go_wp2_with (first|(refine wpList_load_want rfl 38 _ rfl (w.heap.size) rfl 38 ra (0,0) _ rp0 Tryd.underlying38 rfl (q3_inf sza) ?_)|(refine wpList_load_want rfl 38 _ rfl (w.heap.size+1) rfl 38 rb (0,0) _ rp1 Tryd.underlying38 rfl (q3_inf szb) ?_)|(refine wpList_load_want rfl 36 _ rfl (w.heap.size+1+1) rfl 36 dr (0,0) _ rp2 Tryd.underlying36 rfl hd.info ?_)|(refine wpList_load_want rfl 38 _ rfl (w.heap.size+1+1+1) rfl 38 #[.int .u64 0,.int .u64 0,.int .u64 0,.int .u64 0,.int .u64 0,.int .u64 0,.int .u64 0,.int .u64 0,.int .u64 0,.int .u64 0,.int .u64 0,.int .u64 0,.int .u64 0,.int .u64 0,.int .u64 0,.int .u64 0,.int .u64 0,.int .u64 0,.int .u64 0,.int .u64 0,.int .u64 0,.int .u64 0,.int .u64 0,.int .u64 0,.int .u64 0,.int .u64 0,.int .u64 0,.int .u64 0,.int .u64 0,.int .u64 0,.int .u64 0,.int .u64 0,.int .u64 0,.int .u64 0,.int .u64 0,.int .u64 0,.int .u64 0,.int .u64 0,.int .u64 0,.int .u64 0,.int .u64 0,.int .u64 0,.int .u64 0,.int .u64 0,.int .u64 0,.int .u64 0,.int .u64 0,.int .u64 0] (0,0) _ rp3 Tryd.underlying38 rfl (by kernel_rfl) ?_)|(refine wpList_load_part rfl 36 _ rfl (w.heap.size) 0 rfl 38 ra (0,0) xr _ rp0 pa0 Tryd.underlying36 rfl hx1.info ?_)|(refine wpList_load_part rfl 36 _ rfl (w.heap.size) 16 rfl 38 ra (0,0) yr _ rp0 pa1 Tryd.underlying36 rfl hy1.info ?_)|(refine wpList_load_part rfl 36 _ rfl (w.heap.size) 32 rfl 38 ra (0,0) zr_ _ rp0 pa2 Tryd.underlying36 rfl hz1.info ?_)|(refine wpList_load_part rfl 36 _ rfl (w.heap.size+1) 0 rfl 38 rb (0,0) ur _ rp1 pb0 Tryd.underlying36 rfl hx2.info ?_)|(refine wpList_load_part rfl 36 _ rfl (w.heap.size+1) 16 rfl 38 rb (0,0) vr _ rp1 pb1 Tryd.underlying36 rfl hy2.info ?_)|(refine wpList_load_part rfl 36 _ rfl (w.heap.size+1) 32 rfl 38 rb (0,0) wr _ rp1 pb2 Tryd.underlying36 rfl hz2.info ?_)|fail)
 refine(c1.at _).mono ?_;rintro e w2 ⟨rfl,hb⟩;replace rp0:=keep hb rp0;replace rp1:=keep hb rp1;replace rp2:=keep hb rp2;replace rp3:=keep hb rp3;replace hw:=Below.after hw hb;clear hb
 go_wp2_with (first|(refine wpList_store_row rfl 36 _ _ rfl (w2.heap.size) x1 rfl rfl 36 #[.int .u64 0,.int .u64 0,.int .u64 0,.int .u64 0,.int .u64 0,.int .u64 0,.int .u64 0,.int .u64 0,.int .u64 0,.int .u64 0,.int .u64 0,.int .u64 0,.int .u64 0,.int .u64 0,.int .u64 0,.int .u64 0] (hp1_0 w2 _) h1.info (h1.fits rfl) h1.one ?_;rw[setRow_alloc_new _ _ _ _ _ _ (by simp)];refine wpList_stay ?_)|fail)
 unfold WpStay
 try simp only[Act.put]
 have rl7:(w2.alloc (.cells x1 36)).heap[w2.heap.size]? =some (.cells x1 36 (0,0)):=hp1_0 w2 _;have hb:Below w2.heap.size w2 (w2.alloc (.cells x1 36)):=((Below.refl _ _).alloc (Nat.le_refl _) _)
 generalize (w2.alloc (.cells x1 36))=wa at *
 have yga_0:=lt_of_row rp0;have yga_1:=lt_of_row rp1;have yga_2:=lt_of_row rp2;have yga_3:=lt_of_row rp3;have yga:=hw.size;replace rp0:=keep hb rp0;replace rp1:=keep hb rp1;replace rp2:=keep hb rp2;replace rp3:=keep hb rp3;replace hw:=Below.after hw hb;clear hb
 generalize w2.heap.size=ga at *
 clear w2
 go_wp2_with (first|(refine wpList_load_want rfl 38 _ rfl (w.heap.size) rfl 38 ra (0,0) _ rp0 Tryd.underlying38 rfl (q3_inf sza) ?_)|(refine wpList_load_want rfl 38 _ rfl (w.heap.size+1) rfl 38 rb (0,0) _ rp1 Tryd.underlying38 rfl (q3_inf szb) ?_)|(refine wpList_load_want rfl 36 _ rfl (w.heap.size+1+1) rfl 36 dr (0,0) _ rp2 Tryd.underlying36 rfl hd.info ?_)|(refine wpList_load_want rfl 38 _ rfl (w.heap.size+1+1+1) rfl 38 #[.int .u64 0,.int .u64 0,.int .u64 0,.int .u64 0,.int .u64 0,.int .u64 0,.int .u64 0,.int .u64 0,.int .u64 0,.int .u64 0,.int .u64 0,.int .u64 0,.int .u64 0,.int .u64 0,.int .u64 0,.int .u64 0,.int .u64 0,.int .u64 0,.int .u64 0,.int .u64 0,.int .u64 0,.int .u64 0,.int .u64 0,.int .u64 0,.int .u64 0,.int .u64 0,.int .u64 0,.int .u64 0,.int .u64 0,.int .u64 0,.int .u64 0,.int .u64 0,.int .u64 0,.int .u64 0,.int .u64 0,.int .u64 0,.int .u64 0,.int .u64 0,.int .u64 0,.int .u64 0,.int .u64 0,.int .u64 0,.int .u64 0,.int .u64 0,.int .u64 0,.int .u64 0,.int .u64 0,.int .u64 0] (0,0) _ rp3 Tryd.underlying38 rfl (by kernel_rfl) ?_)|(refine wpList_load_want rfl 36 _ rfl (ga) rfl 36 x1 (0,0) _ rl7 Tryd.underlying36 rfl h1.info ?_)|(refine wpList_load_part rfl 36 _ rfl (w.heap.size) 0 rfl 38 ra (0,0) xr _ rp0 pa0 Tryd.underlying36 rfl hx1.info ?_)|(refine wpList_load_part rfl 36 _ rfl (w.heap.size) 16 rfl 38 ra (0,0) yr _ rp0 pa1 Tryd.underlying36 rfl hy1.info ?_)|(refine wpList_load_part rfl 36 _ rfl (w.heap.size) 32 rfl 38 ra (0,0) zr_ _ rp0 pa2 Tryd.underlying36 rfl hz1.info ?_)|(refine wpList_load_part rfl 36 _ rfl (w.heap.size+1) 0 rfl 38 rb (0,0) ur _ rp1 pb0 Tryd.underlying36 rfl hx2.info ?_)|(refine wpList_load_part rfl 36 _ rfl (w.heap.size+1) 16 rfl 38 rb (0,0) vr _ rp1 pb1 Tryd.underlying36 rfl hy2.info ?_)|(refine wpList_load_part rfl 36 _ rfl (w.heap.size+1) 32 rfl 38 rb (0,0) wr _ rp1 pb2 Tryd.underlying36 rfl hz2.info ?_)|fail)
 refine(c3.at _).mono ?_;rintro e w4 ⟨rfl,hb⟩;replace rp0:=keep hb rp0;replace rp1:=keep hb rp1;replace rp2:=keep hb rp2;replace rp3:=keep hb rp3;replace rl7:=keep hb rl7;replace hw:=Below.after hw hb;clear hb
 go_wp2_with (first|(refine wpList_store_row rfl 36 _ _ rfl (w4.heap.size) x3 rfl rfl 36 #[.int .u64 0,.int .u64 0,.int .u64 0,.int .u64 0,.int .u64 0,.int .u64 0,.int .u64 0,.int .u64 0,.int .u64 0,.int .u64 0,.int .u64 0,.int .u64 0,.int .u64 0,.int .u64 0,.int .u64 0,.int .u64 0] (hp1_0 w4 _) h3.info (h3.fits rfl) h3.one ?_;rw[setRow_alloc_new _ _ _ _ _ _ (by simp)];refine wpList_stay ?_)|fail)
 unfold WpStay
 try simp only[Act.put]
 have rl8:(w4.alloc (.cells x3 36)).heap[w4.heap.size]? =some (.cells x3 36 (0,0)):=hp1_0 w4 _;have hb:Below w4.heap.size w4 (w4.alloc (.cells x3 36)):=((Below.refl _ _).alloc (Nat.le_refl _) _)
 generalize (w4.alloc (.cells x3 36))=wb at *
 have ygb_0:=lt_of_row rp0;have ygb_1:=lt_of_row rp1;have ygb_2:=lt_of_row rp2;have ygb_3:=lt_of_row rp3;have ygb_4:=lt_of_row rl7;have ygb:=hw.size;replace rp0:=keep hb rp0;replace rp1:=keep hb rp1;replace rp2:=keep hb rp2;replace rp3:=keep hb rp3;replace rl7:=keep hb rl7;replace hw:=Below.after hw hb;clear hb
 generalize w4.heap.size=gb at *
 clear w4
 go_wp2_with (fail)
 refine wp_region_alloc_ex 10 12 [9,10] (fun _=>.cells #[.int .u64 0,.int .u64 0,.int .u64 0,.int .u64 0,.int .u64 0,.int .u64 0,.int .u64 0,.int .u64 0,.int .u64 0,.int .u64 0,.int .u64 0,.int .u64 0,.int .u64 0,.int .u64 0,.int .u64 0,.int .u64 0] 36 (0,0)) (by kernel_rfl) (by decide) (by decide) (by kernel_rfl) (by kernel_rfl) (by kernel_rfl) (by kernel_rfl) (by kernel_rfl) (by kernel_rfl) (by kernel_rfl) (by kernel_rfl) (by decide) (by decide) ?_ ?_
 ·intro s l u
  rcases(by omega:s=10∨s=11) with rfl|rfl<;>exact⟨_,_,rfl,rfl,rfl,rfl,fun a w=>by kernel_rfl⟩
 apply Exists.intro
 constructor
 ·intro v5 hb
  have Hrp0:=keepr (keep hb rp0)
  have Hrp1:=keepr (keep hb rp1);have Hrp2:=keepr (keep hb rp2);have Hrp3:=keepr (keep hb rp3);have Hrl7:=keepr (keep hb rl7);have Hrl8:=keepr (keep hb rl8)
  skip
  clear hb;dsimp only[List.take];go_big_quiet_step (fail);refine wpQuiet_load_part rfl 36 _ rfl (w.heap.size) 0 rfl 38 ra (0,0) xr _ Hrp0.out pa0 Tryd.underlying36 rfl hx1.info ?_;simp only[Act.put,ZPd,ZPe,ZPf];go_big_quiet_step (fail);refine wpQuiet_load_part rfl 36 _ rfl (w.heap.size+1) 0 rfl 38 rb (0,0) ur _ Hrp1.out pb0 Tryd.underlying36 rfl hx2.info ?_;simp only[Act.put,ZPd,ZPe,ZPf];go_big_quiet_step (exact c6.re);go_big_quiet_step (fail);refine wpQuiet_load_part rfl 36 _ rfl (w.heap.size) 16 rfl 38 ra (0,0) yr _ Hrp0.out pa1 Tryd.underlying36 rfl hy1.info ?_;simp only[Act.put,ZPd,ZPe,ZPf];go_big_quiet_step (fail);refine wpQuiet_load_part rfl 36 _ rfl (w.heap.size+1) 16 rfl 38 rb (0,0) vr _ Hrp1.out pb1 Tryd.underlying36 rfl hy2.info ?_;simp only[Act.put,ZPd,ZPe,ZPf];go_big_quiet_step (exact c7.re);refine wpQuiet_nil ?_;rfl
 intro w8 g hb hg hd
 obtain⟨lg9,rg9⟩:=hg 9 (by simp)
 replace rg9:w8.heap[g 9]? =some (.cells #[.int .u64 0,.int .u64 0,.int .u64 0,.int .u64 0,.int .u64 0,.int .u64 0,.int .u64 0,.int .u64 0,.int .u64 0,.int .u64 0,.int .u64 0,.int .u64 0,.int .u64 0,.int .u64 0,.int .u64 0,.int .u64 0] 36 (0,0)):=rg9
 obtain⟨lg10,rg10⟩:=hg 10 (by simp)
 replace rg10:w8.heap[g 10]? =some (.cells #[.int .u64 0,.int .u64 0,.int .u64 0,.int .u64 0,.int .u64 0,.int .u64 0,.int .u64 0,.int .u64 0,.int .u64 0,.int .u64 0,.int .u64 0,.int .u64 0,.int .u64 0,.int .u64 0,.int .u64 0,.int .u64 0] 36 (0,0)):=rg10;simp only[List.drop,puts,ptrs,List.map,List.foldl,Act.put,List.setIfInBounds_toArray,List.set_cons_succ,List.set_cons_zero]
 have d10_9:=hd 10 (by simp) 9 (by simp) (by decide)
 clear hg hd
 generalize g 9=gc at *
 generalize g 10=gd at *
 have lrp0:=lt_of_row rp0;have lrp1:=lt_of_row rp1;have lrp2:=lt_of_row rp2;have lrp3:=lt_of_row rp3;have lrl7:=lt_of_row rl7;have lrl8:=lt_of_row rl8;have hs:=hw.size;replace rp0:=keep hb rp0;replace rp1:=keep hb rp1;replace rp2:=keep hb rp2;replace rp3:=keep hb rp3;replace rl7:=keep hb rl7;replace rl8:=keep hb rl8;replace hw:=Below.after hw hb;clear hb;refine wpList_store_row rfl 36 _ _ rfl gc x6 rfl rfl 36 _ rg9 h6.info (h6.fits rfl) h6.one ?_;simp only[Act.put]
 replace rp0:=(setRow_other w8 gc (w.heap.size) x6 (by omega)).trans rp0
 replace rp1:=(setRow_other w8 gc (w.heap.size+1) x6 (by omega)).trans rp1
 replace rp2:=(setRow_other w8 gc (w.heap.size+1+1) x6 (by omega)).trans rp2
 replace rp3:=(setRow_other w8 gc (w.heap.size+1+1+1) x6 (by omega)).trans rp3
 replace rl7:=(setRow_other w8 gc (ga) x6 (by omega)).trans rl7
 replace rl8:=(setRow_other w8 gc (gb) x6 (by omega)).trans rl8
 replace rg9:=setRow_heap w8 gc _ x6 _ _ rg9
 replace rg10:=(setRow_other w8 gc gd x6 (by omega)).trans rg10
 replace hw:=below_setRow hw (show w.heap.size≤gc by omega) x6
 generalize w8.setRow gc x6=w9 at *
 refine wpList_store_row rfl 36 _ _ rfl gd x7 rfl rfl 36 _ rg10 h7.info (h7.fits rfl) h7.one ?_;simp only[Act.put]
 replace rp0:=(setRow_other w9 gd (w.heap.size) x7 (by omega)).trans rp0
 replace rp1:=(setRow_other w9 gd (w.heap.size+1) x7 (by omega)).trans rp1
 replace rp2:=(setRow_other w9 gd (w.heap.size+1+1) x7 (by omega)).trans rp2
 replace rp3:=(setRow_other w9 gd (w.heap.size+1+1+1) x7 (by omega)).trans rp3
 replace rl7:=(setRow_other w9 gd (ga) x7 (by omega)).trans rl7
 replace rl8:=(setRow_other w9 gd (gb) x7 (by omega)).trans rl8
 replace rg9:=(setRow_other w9 gd gc x7 (by omega)).trans rg9
 replace rg10:=setRow_heap w9 gd _ x7 _ _ rg10
 replace hw:=below_setRow hw (show w.heap.size≤gd by omega) x7
 generalize w9.setRow gd x7=w10 at *
 have ygc_0:w.heap.size<gc:=by omega
 have ygc_1:w.heap.size+1<gc:=by omega
 have ygc_2:w.heap.size+1+1<gc:=by omega
 have ygc_3:w.heap.size+1+1+1<gc:=by omega
 have ygc_4:ga<gc:=by omega
 have ygc_5:gb<gc:=by omega
 have ygc:w.heap.size≤gc:=by omega
 have ygd_0:w.heap.size<gd:=by omega
 have ygd_1:w.heap.size+1<gd:=by omega
 have ygd_2:w.heap.size+1+1<gd:=by omega
 have ygd_3:w.heap.size+1+1+1<gd:=by omega
 have ygd_4:ga<gd:=by omega
 have ygd_5:gb<gd:=by omega
 have ygd:w.heap.size≤gd:=by omega
 clear hs lrp0 lrp1 lrp2 lrp3 lrl7 lrl8 lg9 lg10
 go_wp2
 refine wp_region_alloc_ex 5 6 [11] (fun _=>.cells #[.int .u64 0,.int .u64 0,.int .u64 0,.int .u64 0,.int .u64 0,.int .u64 0,.int .u64 0,.int .u64 0,.int .u64 0,.int .u64 0,.int .u64 0,.int .u64 0,.int .u64 0,.int .u64 0,.int .u64 0,.int .u64 0] 36 (0,0)) (by kernel_rfl) (by decide) (by decide) (by kernel_rfl) (by kernel_rfl) (by kernel_rfl) (by kernel_rfl) (by kernel_rfl) (by kernel_rfl) (by kernel_rfl) (by kernel_rfl) (by decide) (by decide) ?_ ?_
 ·intro s l u
  rcases(by omega:s=5) with rfl<;>exact⟨_,_,rfl,rfl,rfl,rfl,fun a w=>by kernel_rfl⟩
 apply Exists.intro
 constructor
 ·intro v11 hb
  have Hrp0:=keepr (keep hb rp0)
  have Hrp1:=keepr (keep hb rp1);have Hrp2:=keepr (keep hb rp2);have Hrp3:=keepr (keep hb rp3);have Hrl7:=keepr (keep hb rl7);have Hrl8:=keepr (keep hb rl8);have Hrg9:=keepr (keep hb rg9);have Hrg10:=keepr (keep hb rg10)
  skip
  clear hb;dsimp only[List.take];refine wpQuiet_load_row rfl 36 _ rfl (w.heap.size+1+1) rfl 36 dr (0,0) _ Hrp2.out Tryd.underlying36 rfl hd.info ?_;simp only[Act.put,ZPd,ZPe,ZPf];refine wpQuiet_load_row rfl 36 _ rfl (gc) rfl 36 x6 (0,0) _ Hrg9.out Tryd.underlying36 rfl h6.info ?_;simp only[Act.put,ZPd,ZPe,ZPf];go_big_quiet_step (exact c12.re);refine wpQuiet_load_row rfl 36 _ rfl (gd) rfl 36 x7 (0,0) _ Hrg10.out Tryd.underlying36 rfl h7.info ?_;simp only[Act.put,ZPd,ZPe,ZPf];go_big_quiet_step (exact c13.re);refine wpQuiet_nil ?_;rfl
 intro w14 g hb hg hd
 obtain⟨lg11,rg11⟩:=hg 11 (by simp)
 replace rg11:w14.heap[g 11]? =some (.cells #[.int .u64 0,.int .u64 0,.int .u64 0,.int .u64 0,.int .u64 0,.int .u64 0,.int .u64 0,.int .u64 0,.int .u64 0,.int .u64 0,.int .u64 0,.int .u64 0,.int .u64 0,.int .u64 0,.int .u64 0,.int .u64 0] 36 (0,0)):=rg11;simp only[List.drop,puts,ptrs,List.map,List.foldl,Act.put,List.setIfInBounds_toArray,List.set_cons_succ,List.set_cons_zero];clear hg hd
 generalize g 11=ge at *
 have lrp0:=lt_of_row rp0;have lrp1:=lt_of_row rp1;have lrp2:=lt_of_row rp2;have lrp3:=lt_of_row rp3;have lrl7:=lt_of_row rl7;have lrl8:=lt_of_row rl8;have lrg9:=lt_of_row rg9;have lrg10:=lt_of_row rg10;have hs:=hw.size;replace rp0:=keep hb rp0;replace rp1:=keep hb rp1;replace rp2:=keep hb rp2;replace rp3:=keep hb rp3;replace rl7:=keep hb rl7;replace rl8:=keep hb rl8;replace rg9:=keep hb rg9;replace rg10:=keep hb rg10;replace hw:=Below.after hw hb;clear hb;refine wpList_store_row rfl 36 _ _ rfl ge x13 rfl rfl 36 _ rg11 h13.info (h13.fits rfl) h13.one ?_;simp only[Act.put]
 replace rp0:=(setRow_other w14 ge (w.heap.size) x13 (by omega)).trans rp0
 replace rp1:=(setRow_other w14 ge (w.heap.size+1) x13 (by omega)).trans rp1
 replace rp2:=(setRow_other w14 ge (w.heap.size+1+1) x13 (by omega)).trans rp2
 replace rp3:=(setRow_other w14 ge (w.heap.size+1+1+1) x13 (by omega)).trans rp3
 replace rl7:=(setRow_other w14 ge (ga) x13 (by omega)).trans rl7
 replace rl8:=(setRow_other w14 ge (gb) x13 (by omega)).trans rl8
 replace rg9:=(setRow_other w14 ge (gc) x13 (by omega)).trans rg9
 replace rg10:=(setRow_other w14 ge (gd) x13 (by omega)).trans rg10
 replace rg11:=setRow_heap w14 ge _ x13 _ _ rg11
 replace hw:=below_setRow hw (show w.heap.size≤ge by omega) x13
 generalize w14.setRow ge x13=w15 at *
 have yge_0:w.heap.size<ge:=by omega
 have yge_1:w.heap.size+1<ge:=by omega
 have yge_2:w.heap.size+1+1<ge:=by omega
 have yge_3:w.heap.size+1+1+1<ge:=by omega
 have yge_4:ga<ge:=by omega
 have yge_5:gb<ge:=by omega
 have yge_6:gc<ge:=by omega
 have yge_7:gd<ge:=by omega
 have yge:w.heap.size≤ge:=by omega
 clear hs lrp0 lrp1 lrp2 lrp3 lrl7 lrl8 lrg9 lrg10 lg11
 go_wp2
 refine wp_region_alloc_ex 6 8 [12,13] (fun _=>.cells #[.int .u64 0,.int .u64 0,.int .u64 0,.int .u64 0,.int .u64 0,.int .u64 0,.int .u64 0,.int .u64 0,.int .u64 0,.int .u64 0,.int .u64 0,.int .u64 0,.int .u64 0,.int .u64 0,.int .u64 0,.int .u64 0] 36 (0,0)) (by kernel_rfl) (by decide) (by decide) (by kernel_rfl) (by kernel_rfl) (by kernel_rfl) (by kernel_rfl) (by kernel_rfl) (by kernel_rfl) (by kernel_rfl) (by kernel_rfl) (by decide) (by decide) ?_ ?_
 ·intro s l u
  rcases(by omega:s=6∨s=7) with rfl|rfl<;>exact⟨_,_,rfl,rfl,rfl,rfl,fun a w=>by kernel_rfl⟩
 apply Exists.intro
 constructor
 ·intro v16 hb
  have Hrp0:=keepr (keep hb rp0)
  have Hrp1:=keepr (keep hb rp1);have Hrp2:=keepr (keep hb rp2);have Hrp3:=keepr (keep hb rp3);have Hrl7:=keepr (keep hb rl7);have Hrl8:=keepr (keep hb rl8);have Hrg9:=keepr (keep hb rg9);have Hrg10:=keepr (keep hb rg10);have Hrg11:=keepr (keep hb rg11)
  skip
  clear hb;dsimp only[List.take];refine wpQuiet_load_row rfl 36 _ rfl (gb) rfl 36 x3 (0,0) _ Hrl8.out Tryd.underlying36 rfl h3.info ?_;simp only[Act.put,ZPd,ZPe,ZPf];refine wpQuiet_load_row rfl 36 _ rfl (ge) rfl 36 x13 (0,0) _ Hrg11.out Tryd.underlying36 rfl h13.info ?_;simp only[Act.put,ZPd,ZPe,ZPf];go_big_quiet_step (exact c17.re);refine wpQuiet_load_row rfl 36 _ rfl (gb) rfl 36 x3 (0,0) _ Hrl8.out Tryd.underlying36 rfl h3.info ?_;simp only[Act.put,ZPd,ZPe,ZPf];refine wpQuiet_load_row rfl 36 _ rfl (ge) rfl 36 x13 (0,0) _ Hrg11.out Tryd.underlying36 rfl h13.info ?_;simp only[Act.put,ZPd,ZPe,ZPf];go_big_quiet_step (exact c18.re);refine wpQuiet_nil ?_;rfl
 intro w19 g hb hg hd
 obtain⟨lg12,rg12⟩:=hg 12 (by simp)
 replace rg12:w19.heap[g 12]? =some (.cells #[.int .u64 0,.int .u64 0,.int .u64 0,.int .u64 0,.int .u64 0,.int .u64 0,.int .u64 0,.int .u64 0,.int .u64 0,.int .u64 0,.int .u64 0,.int .u64 0,.int .u64 0,.int .u64 0,.int .u64 0,.int .u64 0] 36 (0,0)):=rg12
 obtain⟨lg13,rg13⟩:=hg 13 (by simp)
 replace rg13:w19.heap[g 13]? =some (.cells #[.int .u64 0,.int .u64 0,.int .u64 0,.int .u64 0,.int .u64 0,.int .u64 0,.int .u64 0,.int .u64 0,.int .u64 0,.int .u64 0,.int .u64 0,.int .u64 0,.int .u64 0,.int .u64 0,.int .u64 0,.int .u64 0] 36 (0,0)):=rg13;simp only[List.drop,puts,ptrs,List.map,List.foldl,Act.put,List.setIfInBounds_toArray,List.set_cons_succ,List.set_cons_zero]
 have d13_12:=hd 13 (by simp) 12 (by simp) (by decide)
 clear hg hd
 generalize g 12=gf at *
 generalize g 13=gg at *
 have lrp0:=lt_of_row rp0;have lrp1:=lt_of_row rp1;have lrp2:=lt_of_row rp2;have lrp3:=lt_of_row rp3;have lrl7:=lt_of_row rl7;have lrl8:=lt_of_row rl8;have lrg9:=lt_of_row rg9;have lrg10:=lt_of_row rg10;have lrg11:=lt_of_row rg11;have hs:=hw.size;replace rp0:=keep hb rp0;replace rp1:=keep hb rp1;replace rp2:=keep hb rp2;replace rp3:=keep hb rp3;replace rl7:=keep hb rl7;replace rl8:=keep hb rl8;replace rg9:=keep hb rg9;replace rg10:=keep hb rg10;replace rg11:=keep hb rg11;replace hw:=Below.after hw hb;clear hb;refine wpList_store_row rfl 36 _ _ rfl gf x17 rfl rfl 36 _ rg12 h17.info (h17.fits rfl) h17.one ?_;simp only[Act.put]
 replace rp0:=(setRow_other w19 gf (w.heap.size) x17 (by omega)).trans rp0
 replace rp1:=(setRow_other w19 gf (w.heap.size+1) x17 (by omega)).trans rp1
 replace rp2:=(setRow_other w19 gf (w.heap.size+1+1) x17 (by omega)).trans rp2
 replace rp3:=(setRow_other w19 gf (w.heap.size+1+1+1) x17 (by omega)).trans rp3
 replace rl7:=(setRow_other w19 gf (ga) x17 (by omega)).trans rl7
 replace rl8:=(setRow_other w19 gf (gb) x17 (by omega)).trans rl8
 replace rg9:=(setRow_other w19 gf (gc) x17 (by omega)).trans rg9
 replace rg10:=(setRow_other w19 gf (gd) x17 (by omega)).trans rg10
 replace rg11:=(setRow_other w19 gf (ge) x17 (by omega)).trans rg11
 replace rg12:=setRow_heap w19 gf _ x17 _ _ rg12
 replace rg13:=(setRow_other w19 gf gg x17 (by omega)).trans rg13
 replace hw:=below_setRow hw (show w.heap.size≤gf by omega) x17
 generalize w19.setRow gf x17=w20 at *
 refine wpList_store_row rfl 36 _ _ rfl gg x18 rfl rfl 36 _ rg13 h18.info (h18.fits rfl) h18.one ?_;simp only[Act.put]
 replace rp0:=(setRow_other w20 gg (w.heap.size) x18 (by omega)).trans rp0
 replace rp1:=(setRow_other w20 gg (w.heap.size+1) x18 (by omega)).trans rp1
 replace rp2:=(setRow_other w20 gg (w.heap.size+1+1) x18 (by omega)).trans rp2
 replace rp3:=(setRow_other w20 gg (w.heap.size+1+1+1) x18 (by omega)).trans rp3
 replace rl7:=(setRow_other w20 gg (ga) x18 (by omega)).trans rl7
 replace rl8:=(setRow_other w20 gg (gb) x18 (by omega)).trans rl8
 replace rg9:=(setRow_other w20 gg (gc) x18 (by omega)).trans rg9
 replace rg10:=(setRow_other w20 gg (gd) x18 (by omega)).trans rg10
 replace rg11:=(setRow_other w20 gg (ge) x18 (by omega)).trans rg11
 replace rg12:=(setRow_other w20 gg gf x18 (by omega)).trans rg12
 replace rg13:=setRow_heap w20 gg _ x18 _ _ rg13
 replace hw:=below_setRow hw (show w.heap.size≤gg by omega) x18
 generalize w20.setRow gg x18=w21 at *
 have ygf_0:w.heap.size<gf:=by omega
 have ygf_1:w.heap.size+1<gf:=by omega
 have ygf_2:w.heap.size+1+1<gf:=by omega
 have ygf_3:w.heap.size+1+1+1<gf:=by omega
 have ygf_4:ga<gf:=by omega
 have ygf_5:gb<gf:=by omega
 have ygf_6:gc<gf:=by omega
 have ygf_7:gd<gf:=by omega
 have ygf_8:ge<gf:=by omega
 have ygf:w.heap.size≤gf:=by omega
 have ygg_0:w.heap.size<gg:=by omega
 have ygg_1:w.heap.size+1<gg:=by omega
 have ygg_2:w.heap.size+1+1<gg:=by omega
 have ygg_3:w.heap.size+1+1+1<gg:=by omega
 have ygg_4:ga<gg:=by omega
 have ygg_5:gb<gg:=by omega
 have ygg_6:gc<gg:=by omega
 have ygg_7:gd<gg:=by omega
 have ygg_8:ge<gg:=by omega
 have ygg:w.heap.size≤gg:=by omega
 clear hs lrp0 lrp1 lrp2 lrp3 lrl7 lrl8 lrg9 lrg10 lrg11 lg12 lg13
 go_wp2
 refine wp_region_alloc_ex 11 12 [14] (fun _=>.cells #[.int .u64 0,.int .u64 0,.int .u64 0,.int .u64 0,.int .u64 0,.int .u64 0,.int .u64 0,.int .u64 0,.int .u64 0,.int .u64 0,.int .u64 0,.int .u64 0,.int .u64 0,.int .u64 0,.int .u64 0,.int .u64 0] 36 (0,0)) (by kernel_rfl) (by decide) (by decide) (by kernel_rfl) (by kernel_rfl) (by kernel_rfl) (by kernel_rfl) (by kernel_rfl) (by kernel_rfl) (by kernel_rfl) (by kernel_rfl) (by decide) (by decide) ?_ ?_
 ·intro s l u
  rcases(by omega:s=11) with rfl<;>exact⟨_,_,rfl,rfl,rfl,rfl,fun a w=>by kernel_rfl⟩
 apply Exists.intro
 constructor
 ·intro v22 hb
  have Hrp0:=keepr (keep hb rp0)
  have Hrp1:=keepr (keep hb rp1);have Hrp2:=keepr (keep hb rp2);have Hrp3:=keepr (keep hb rp3);have Hrl7:=keepr (keep hb rl7);have Hrl8:=keepr (keep hb rl8);have Hrg9:=keepr (keep hb rg9);have Hrg10:=keepr (keep hb rg10);have Hrg11:=keepr (keep hb rg11);have Hrg12:=keepr (keep hb rg12);have Hrg13:=keepr (keep hb rg13)
  skip
  clear hb;dsimp only[List.take];go_big_quiet_step (fail);refine wpQuiet_load_part rfl 36 _ rfl (w.heap.size) 0 rfl 38 ra (0,0) xr _ Hrp0.out pa0 Tryd.underlying36 rfl hx1.info ?_;simp only[Act.put,ZPd,ZPe,ZPf];go_big_quiet_step (fail);refine wpQuiet_load_part rfl 36 _ rfl (w.heap.size+1) 16 rfl 38 rb (0,0) vr _ Hrp1.out pb1 Tryd.underlying36 rfl hy2.info ?_;simp only[Act.put,ZPd,ZPe,ZPf];go_big_quiet_step (exact c23.re);go_big_quiet_step (fail);refine wpQuiet_load_part rfl 36 _ rfl (w.heap.size) 16 rfl 38 ra (0,0) yr _ Hrp0.out pa1 Tryd.underlying36 rfl hy1.info ?_;simp only[Act.put,ZPd,ZPe,ZPf];go_big_quiet_step (fail);refine wpQuiet_load_part rfl 36 _ rfl (w.heap.size+1) 0 rfl 38 rb (0,0) ur _ Hrp1.out pb0 Tryd.underlying36 rfl hx2.info ?_;simp only[Act.put,ZPd,ZPe,ZPf];go_big_quiet_step (exact c24.re);go_big_quiet_step (exact c25.re);refine wpQuiet_nil ?_;rfl
 intro w26 g hb hg hd
 obtain⟨lg14,rg14⟩:=hg 14 (by simp)
 replace rg14:w26.heap[g 14]? =some (.cells #[.int .u64 0,.int .u64 0,.int .u64 0,.int .u64 0,.int .u64 0,.int .u64 0,.int .u64 0,.int .u64 0,.int .u64 0,.int .u64 0,.int .u64 0,.int .u64 0,.int .u64 0,.int .u64 0,.int .u64 0,.int .u64 0] 36 (0,0)):=rg14;simp only[List.drop,puts,ptrs,List.map,List.foldl,Act.put,List.setIfInBounds_toArray,List.set_cons_succ,List.set_cons_zero];clear hg hd
 generalize g 14=gk at *
 have lrp0:=lt_of_row rp0;have lrp1:=lt_of_row rp1;have lrp2:=lt_of_row rp2;have lrp3:=lt_of_row rp3;have lrl7:=lt_of_row rl7;have lrl8:=lt_of_row rl8;have lrg9:=lt_of_row rg9;have lrg10:=lt_of_row rg10;have lrg11:=lt_of_row rg11;have lrg12:=lt_of_row rg12;have lrg13:=lt_of_row rg13;have hs:=hw.size;replace rp0:=keep hb rp0;replace rp1:=keep hb rp1;replace rp2:=keep hb rp2;replace rp3:=keep hb rp3;replace rl7:=keep hb rl7;replace rl8:=keep hb rl8;replace rg9:=keep hb rg9;replace rg10:=keep hb rg10;replace rg11:=keep hb rg11;replace rg12:=keep hb rg12;replace rg13:=keep hb rg13;replace hw:=Below.after hw hb;clear hb;refine wpList_store_row rfl 36 _ _ rfl gk x25 rfl rfl 36 _ rg14 h25.info (h25.fits rfl) h25.one ?_;simp only[Act.put]
 replace rp0:=(setRow_other w26 gk (w.heap.size) x25 (by omega)).trans rp0
 replace rp1:=(setRow_other w26 gk (w.heap.size+1) x25 (by omega)).trans rp1
 replace rp2:=(setRow_other w26 gk (w.heap.size+1+1) x25 (by omega)).trans rp2
 replace rp3:=(setRow_other w26 gk (w.heap.size+1+1+1) x25 (by omega)).trans rp3
 replace rl7:=(setRow_other w26 gk (ga) x25 (by omega)).trans rl7
 replace rl8:=(setRow_other w26 gk (gb) x25 (by omega)).trans rl8
 replace rg9:=(setRow_other w26 gk (gc) x25 (by omega)).trans rg9
 replace rg10:=(setRow_other w26 gk (gd) x25 (by omega)).trans rg10
 replace rg11:=(setRow_other w26 gk (ge) x25 (by omega)).trans rg11
 replace rg12:=(setRow_other w26 gk (gf) x25 (by omega)).trans rg12
 replace rg13:=(setRow_other w26 gk (gg) x25 (by omega)).trans rg13
 replace rg14:=setRow_heap w26 gk _ x25 _ _ rg14
 replace hw:=below_setRow hw (show w.heap.size≤gk by omega) x25
 generalize w26.setRow gk x25=w27 at *
 have ygk_0:w.heap.size<gk:=by omega
 have ygk_1:w.heap.size+1<gk:=by omega
 have ygk_2:w.heap.size+1+1<gk:=by omega
 have ygk_3:w.heap.size+1+1+1<gk:=by omega
 have ygk_4:ga<gk:=by omega
 have ygk_5:gb<gk:=by omega
 have ygk_6:gc<gk:=by omega
 have ygk_7:gd<gk:=by omega
 have ygk_8:ge<gk:=by omega
 have ygk_9:gf<gk:=by omega
 have ygk_10:gg<gk:=by omega
 have ygk:w.heap.size≤gk:=by omega
 clear hs lrp0 lrp1 lrp2 lrp3 lrl7 lrl8 lrg9 lrg10 lrg11 lrg12 lrg13 lg14
 go_wp2
 have Hrp0:=keepr rp0;have Hrp1:=keepr rp1;have Hrp2:=keepr rp2;have Hrp3:=keepr rp3;have Hrl7:=keepr rl7;have Hrl8:=keepr rl8;have Hrg9:=keepr rg9;have Hrg10:=keepr rg10;have Hrg11:=keepr rg11;have Hrg12:=keepr rg12;have Hrg13:=keepr rg13;have Hrg14:=keepr rg14
 refine wp_region_tail (C:=fun w'=>∃p:Regrown,w'=grow (redrawn w27 p.d) p.os) 16 _ rfl rfl rfl (by kernel_rfl) (by kernel_rfl) (by kernel_rfl) (by kernel_rfl) ⟨⟨w27.drawn+1,#[]⟩,by rw[grow_empty];rfl⟩ ?_
 dsimp only[List.set,idle];refine wpQuiet_load_row rfl 36 _ rfl (ga) rfl 36 x1 (0,0) _ Hrl7.out Tryd.underlying36 rfl h1.info ?_;simp only[Act.put,ZPd,ZPe,ZPf];refine wpQuiet_load_row rfl 36 _ rfl (gf) rfl 36 x17 (0,0) _ Hrg12.out Tryd.underlying36 rfl h17.info ?_;simp only[Act.put,ZPd,ZPe,ZPf];go_big_quiet_step (exact c28.re);refine wpQuiet_load_row rfl 36 _ rfl (gk) rfl 36 x25 (0,0) _ Hrg14.out Tryd.underlying36 rfl h25.info ?_;simp only[Act.put,ZPd,ZPe,ZPf];go_big_quiet_step (exact c29.re);refine wpQuiet_load_row rfl 36 _ rfl (ga) rfl 36 x1 (0,0) _ Hrl7.out Tryd.underlying36 rfl h1.info ?_;simp only[Act.put,ZPd,ZPe,ZPf];refine wpQuiet_load_row rfl 36 _ rfl (gg) rfl 36 x18 (0,0) _ Hrg13.out Tryd.underlying36 rfl h18.info ?_;simp only[Act.put,ZPd,ZPe,ZPf];go_big_quiet_step (exact c30.re);refine wpQuiet_load_row rfl 36 _ rfl (gd) rfl 36 x7 (0,0) _ Hrg10.out Tryd.underlying36 rfl h7.info ?_;simp only[Act.put,ZPd,ZPe,ZPf];refine wpQuiet_load_row rfl 36 _ rfl (gc) rfl 36 x6 (0,0) _ Hrg9.out Tryd.underlying36 rfl h6.info ?_;simp only[Act.put,ZPd,ZPe,ZPf];go_big_quiet_step (exact c31.re);go_big_quiet_step (exact c32.re);refine wpQuiet_load_row rfl 36 _ rfl (gf) rfl 36 x17 (0,0) _ Hrg12.out Tryd.underlying36 rfl h17.info ?_;simp only[Act.put,ZPd,ZPe,ZPf];refine wpQuiet_load_row rfl 36 _ rfl (gg) rfl 36 x18 (0,0) _ Hrg13.out Tryd.underlying36 rfl h18.info ?_;simp only[Act.put,ZPd,ZPe,ZPf];go_big_quiet_step (exact c33.re);refine wpQuiet_build rfl 38 _ rfl [(0,.agg x29),(1,.agg x32),(2,.agg x33)] rfl (r3 x29 x32 x33) (q3_built h29.size h32.size h33.size) ?_;simp only[Act.put,ZPd,ZPe,ZPf];refine wpQuiet_idle rfl rfl rfl ?_;rintro _ ⟨p,rfl⟩;have hb:=below_regrown w27 p.d p.os
 generalize grow (redrawn w27 p.d) p.os=w34 at *
 replace rp0:=keep hb rp0;replace rp1:=keep hb rp1;replace rp2:=keep hb rp2;replace rp3:=keep hb rp3;replace rl7:=keep hb rl7;replace rl8:=keep hb rl8;replace rg9:=keep hb rg9;replace rg10:=keep hb rg10;replace rg11:=keep hb rg11;replace rg12:=keep hb rg12;replace rg13:=keep hb rg13;replace rg14:=keep hb rg14;replace hw:=Below.after hw hb;clear hb;clear Hrp0 Hrp1 Hrp2 Hrp3 Hrl7 Hrl8 Hrg9 Hrg10 Hrg11 Hrg12 Hrg13 Hrg14
 go_wp2_with (first|(refine wpList_store_row rfl 38 _ _ rfl (w.heap.size+1+1+1) (r3 x29 x32 x33) rfl rfl 38 _ rp3 (q3_info h29.size h32.size h33.size) ((show _=48 from rfl).trans (r3_size h29.size h32.size h33.size).symm) (r3_one h29.one h32.one h33.one) ?_)|fail)
 exact bodyPost_ret (v:=.agg (r3 x29 x32 x33)) (results_cell_row Tryd.results45 _ _ (w.heap.size+1+1+1) _ (r3 x29 x32 x33) _ _ rfl (setRow_heap _ _ _ _ _ _ rp3) Tryd.underlying38 rfl (q3_info h29.size h32.size h33.size)) rfl ⟨rfl,below_setRow hw (by omega) _⟩
set_option maxRecDepth 100000 in
set_option maxHeartbeats 8000000 in
theorem r_Add19 {r s:Array Value} {P Q:E1} (h:ReO r P) (g:ReO s Q):∃t,ReO t (pl P Q)∧Gives 50 #[.agg r,.agg s] (.agg t):=by
 obtain⟨xr,yr,zr_,X1,Y1,Z1,rfl,hx1,hy1,hz1,hP⟩:=h;obtain⟨ur,vr,wr,X2,Y2,Z2,rfl,hx2,hy2,hz2,hQ⟩:=g;have pa0:=q3_0 (a:=xr) (b:=yr) (c:=zr_);have pa1:=q3_1 (b:=yr) (c:=zr_) hx1.size;have pa2:=q3_2 (c:=zr_) hx1.size hy1.size;have sza:=r3_size hx1.size hy1.size hz1.size;have ona:=r3_one hx1.one hy1.one hz1.one
 generalize r3 xr yr zr_=ra at *
 have pb0:=q3_0 (a:=ur) (b:=vr) (c:=wr);have pb1:=q3_1 (b:=vr) (c:=wr) hx2.size;have pb2:=q3_2 (c:=wr) hx2.size hy2.size;have szb:=r3_size hx2.size hy2.size hz2.size;have onb:=r3_one hx2.one hy2.one hz2.one
 generalize r3 ur vr wr=rb at *
 obtain⟨x1,h1,c1⟩:=n_mul hz1 hz2;obtain⟨x3,h3,c3⟩:=n_square h1;obtain⟨x6,h6,c6⟩:=n_mul hx1 hx2;obtain⟨x7,h7,c7⟩:=n_mul hy1 hy2;obtain⟨x12,h12,c12⟩:=r_D;obtain⟨x13,h13,c13⟩:=n_mul h12 h6;obtain⟨x14,h14,c14⟩:=n_mul h13 h7;obtain⟨x18,h18,c18⟩:=n_sub h3 h14;obtain⟨x19,h19,c19⟩:=n_add h3 h14;obtain⟨x24,h24,c24⟩:=n_mul hx1 hy2;obtain⟨x25,h25,c25⟩:=n_mul hy1 hx2;obtain⟨x26,h26,c26⟩:=n_add h24 h25;obtain⟨x29,h29,c29⟩:=n_mul h1 h18;obtain⟨x30,h30,c30⟩:=n_mul h29 h26;obtain⟨x31,h31,c31⟩:=n_mul h1 h19;obtain⟨x32,h32,c32⟩:=n_add h7 h6;obtain⟨x33,h33,c33⟩:=n_mul h31 h32;obtain⟨x34,h34,c34⟩:=n_mul h18 h19
 refine⟨_,⟨x30,x33,x34,_,_,_,rfl,h30,h33,h34,rp_add hP hQ D_ec (zr _) (zr _) (zr _) (zr _) (zr _) (zr _) (zr _) (zr _) (zr _) (zr _) (zr _) (zr _) (zr _) (zr _) (zr _) (zr _) (zr _)⟩,fun w=>?_⟩
 go_enter Tryd.func50,Tryd.ntmps50
 iterate 12 go_step
 generalize hal_:(((w.alloc (.cells ra 38)).alloc (.cells rb 38)).alloc (.cells #[.int .u64 0,.int .u64 0,.int .u64 0,.int .u64 0,.int .u64 0,.int .u64 0,.int .u64 0,.int .u64 0,.int .u64 0,.int .u64 0,.int .u64 0,.int .u64 0,.int .u64 0,.int .u64 0,.int .u64 0,.int .u64 0,.int .u64 0,.int .u64 0,.int .u64 0,.int .u64 0,.int .u64 0,.int .u64 0,.int .u64 0,.int .u64 0,.int .u64 0,.int .u64 0,.int .u64 0,.int .u64 0,.int .u64 0,.int .u64 0,.int .u64 0,.int .u64 0,.int .u64 0,.int .u64 0,.int .u64 0,.int .u64 0,.int .u64 0,.int .u64 0,.int .u64 0,.int .u64 0,.int .u64 0,.int .u64 0,.int .u64 0,.int .u64 0,.int .u64 0,.int .u64 0,.int .u64 0,.int .u64 0] 38))=w0
 have rp0:w0.heap[w.heap.size]? =some (.cells ra 38 (0,0)):=by rw[←hal_];exact hp3_0 w _ _ _
 have rp1:w0.heap[w.heap.size+1]? =some (.cells rb 38 (0,0)):=by rw[←hal_];exact hp3_1 w _ _ _
 have rp2:w0.heap[w.heap.size+1+1]? =some (.cells #[.int .u64 0,.int .u64 0,.int .u64 0,.int .u64 0,.int .u64 0,.int .u64 0,.int .u64 0,.int .u64 0,.int .u64 0,.int .u64 0,.int .u64 0,.int .u64 0,.int .u64 0,.int .u64 0,.int .u64 0,.int .u64 0,.int .u64 0,.int .u64 0,.int .u64 0,.int .u64 0,.int .u64 0,.int .u64 0,.int .u64 0,.int .u64 0,.int .u64 0,.int .u64 0,.int .u64 0,.int .u64 0,.int .u64 0,.int .u64 0,.int .u64 0,.int .u64 0,.int .u64 0,.int .u64 0,.int .u64 0,.int .u64 0,.int .u64 0,.int .u64 0,.int .u64 0,.int .u64 0,.int .u64 0,.int .u64 0,.int .u64 0,.int .u64 0,.int .u64 0,.int .u64 0,.int .u64 0,.int .u64 0] 38 (0,0)):=by rw[←hal_];exact hp3_2 w _ _ _
 have hw:Below w.heap.size w w0:=by rw[←hal_];exact((((Below.refl _ _).alloc (Nat.le_refl _) _).alloc (by simp) _).alloc (by simp;omega) _)
 clear hal_
 go_wp2_with (first|(refine wpList_load_want rfl 38 _ rfl (w.heap.size) rfl 38 ra (0,0) _ rp0 Tryd.underlying38 rfl (q3_inf sza) ?_)|(refine wpList_load_want rfl 38 _ rfl (w.heap.size+1) rfl 38 rb (0,0) _ rp1 Tryd.underlying38 rfl (q3_inf szb) ?_)|(refine wpList_load_want rfl 38 _ rfl (w.heap.size+1+1) rfl 38 #[.int .u64 0,.int .u64 0,.int .u64 0,.int .u64 0,.int .u64 0,.int .u64 0,.int .u64 0,.int .u64 0,.int .u64 0,.int .u64 0,.int .u64 0,.int .u64 0,.int .u64 0,.int .u64 0,.int .u64 0,.int .u64 0,.int .u64 0,.int .u64 0,.int .u64 0,.int .u64 0,.int .u64 0,.int .u64 0,.int .u64 0,.int .u64 0,.int .u64 0,.int .u64 0,.int .u64 0,.int .u64 0,.int .u64 0,.int .u64 0,.int .u64 0,.int .u64 0,.int .u64 0,.int .u64 0,.int .u64 0,.int .u64 0,.int .u64 0,.int .u64 0,.int .u64 0,.int .u64 0,.int .u64 0,.int .u64 0,.int .u64 0,.int .u64 0,.int .u64 0,.int .u64 0,.int .u64 0,.int .u64 0] (0,0) _ rp2 Tryd.underlying38 rfl (by kernel_rfl) ?_)|(refine wpList_load_part rfl 36 _ rfl (w.heap.size) 0 rfl 38 ra (0,0) xr _ rp0 pa0 Tryd.underlying36 rfl hx1.info ?_)|(refine wpList_load_part rfl 36 _ rfl (w.heap.size) 16 rfl 38 ra (0,0) yr _ rp0 pa1 Tryd.underlying36 rfl hy1.info ?_)|(refine wpList_load_part rfl 36 _ rfl (w.heap.size) 32 rfl 38 ra (0,0) zr_ _ rp0 pa2 Tryd.underlying36 rfl hz1.info ?_)|(refine wpList_load_part rfl 36 _ rfl (w.heap.size+1) 0 rfl 38 rb (0,0) ur _ rp1 pb0 Tryd.underlying36 rfl hx2.info ?_)|(refine wpList_load_part rfl 36 _ rfl (w.heap.size+1) 16 rfl 38 rb (0,0) vr _ rp1 pb1 Tryd.underlying36 rfl hy2.info ?_)|(refine wpList_load_part rfl 36 _ rfl (w.heap.size+1) 32 rfl 38 rb (0,0) wr _ rp1 pb2 Tryd.underlying36 rfl hz2.info ?_)|fail)
 refine(c1.at _).mono ?_;rintro e w2 ⟨rfl,hb⟩;replace rp0:=keep hb rp0;replace rp1:=keep hb rp1;replace rp2:=keep hb rp2;replace hw:=Below.after hw hb;clear hb
 go_wp2_with (first|(refine wpList_store_row rfl 36 _ _ rfl (w2.heap.size) x1 rfl rfl 36 #[.int .u64 0,.int .u64 0,.int .u64 0,.int .u64 0,.int .u64 0,.int .u64 0,.int .u64 0,.int .u64 0,.int .u64 0,.int .u64 0,.int .u64 0,.int .u64 0,.int .u64 0,.int .u64 0,.int .u64 0,.int .u64 0] (hp1_0 w2 _) h1.info (h1.fits rfl) h1.one ?_;rw[setRow_alloc_new _ _ _ _ _ _ (by simp)];refine wpList_stay ?_)|fail)
 unfold WpStay
 try simp only[Act.put]
 have rl5:(w2.alloc (.cells x1 36)).heap[w2.heap.size]? =some (.cells x1 36 (0,0)):=hp1_0 w2 _;have hb:Below w2.heap.size w2 (w2.alloc (.cells x1 36)):=((Below.refl _ _).alloc (Nat.le_refl _) _)
 generalize (w2.alloc (.cells x1 36))=wa at *
 have yga_0:=lt_of_row rp0;have yga_1:=lt_of_row rp1;have yga_2:=lt_of_row rp2;have yga:=hw.size;replace rp0:=keep hb rp0;replace rp1:=keep hb rp1;replace rp2:=keep hb rp2;replace hw:=Below.after hw hb;clear hb
 generalize w2.heap.size=ga at *
 clear w2
 go_wp2_with (first|(refine wpList_load_want rfl 38 _ rfl (w.heap.size) rfl 38 ra (0,0) _ rp0 Tryd.underlying38 rfl (q3_inf sza) ?_)|(refine wpList_load_want rfl 38 _ rfl (w.heap.size+1) rfl 38 rb (0,0) _ rp1 Tryd.underlying38 rfl (q3_inf szb) ?_)|(refine wpList_load_want rfl 38 _ rfl (w.heap.size+1+1) rfl 38 #[.int .u64 0,.int .u64 0,.int .u64 0,.int .u64 0,.int .u64 0,.int .u64 0,.int .u64 0,.int .u64 0,.int .u64 0,.int .u64 0,.int .u64 0,.int .u64 0,.int .u64 0,.int .u64 0,.int .u64 0,.int .u64 0,.int .u64 0,.int .u64 0,.int .u64 0,.int .u64 0,.int .u64 0,.int .u64 0,.int .u64 0,.int .u64 0,.int .u64 0,.int .u64 0,.int .u64 0,.int .u64 0,.int .u64 0,.int .u64 0,.int .u64 0,.int .u64 0,.int .u64 0,.int .u64 0,.int .u64 0,.int .u64 0,.int .u64 0,.int .u64 0,.int .u64 0,.int .u64 0,.int .u64 0,.int .u64 0,.int .u64 0,.int .u64 0,.int .u64 0,.int .u64 0,.int .u64 0,.int .u64 0] (0,0) _ rp2 Tryd.underlying38 rfl (by kernel_rfl) ?_)|(refine wpList_load_want rfl 36 _ rfl (ga) rfl 36 x1 (0,0) _ rl5 Tryd.underlying36 rfl h1.info ?_)|(refine wpList_load_part rfl 36 _ rfl (w.heap.size) 0 rfl 38 ra (0,0) xr _ rp0 pa0 Tryd.underlying36 rfl hx1.info ?_)|(refine wpList_load_part rfl 36 _ rfl (w.heap.size) 16 rfl 38 ra (0,0) yr _ rp0 pa1 Tryd.underlying36 rfl hy1.info ?_)|(refine wpList_load_part rfl 36 _ rfl (w.heap.size) 32 rfl 38 ra (0,0) zr_ _ rp0 pa2 Tryd.underlying36 rfl hz1.info ?_)|(refine wpList_load_part rfl 36 _ rfl (w.heap.size+1) 0 rfl 38 rb (0,0) ur _ rp1 pb0 Tryd.underlying36 rfl hx2.info ?_)|(refine wpList_load_part rfl 36 _ rfl (w.heap.size+1) 16 rfl 38 rb (0,0) vr _ rp1 pb1 Tryd.underlying36 rfl hy2.info ?_)|(refine wpList_load_part rfl 36 _ rfl (w.heap.size+1) 32 rfl 38 rb (0,0) wr _ rp1 pb2 Tryd.underlying36 rfl hz2.info ?_)|fail)
 refine(c3.at _).mono ?_;rintro e w4 ⟨rfl,hb⟩;replace rp0:=keep hb rp0;replace rp1:=keep hb rp1;replace rp2:=keep hb rp2;replace rl5:=keep hb rl5;replace hw:=Below.after hw hb;clear hb
 go_wp2_with (first|(refine wpList_store_row rfl 36 _ _ rfl (w4.heap.size) x3 rfl rfl 36 #[.int .u64 0,.int .u64 0,.int .u64 0,.int .u64 0,.int .u64 0,.int .u64 0,.int .u64 0,.int .u64 0,.int .u64 0,.int .u64 0,.int .u64 0,.int .u64 0,.int .u64 0,.int .u64 0,.int .u64 0,.int .u64 0] (hp1_0 w4 _) h3.info (h3.fits rfl) h3.one ?_;rw[setRow_alloc_new _ _ _ _ _ _ (by simp)];refine wpList_stay ?_)|fail)
 unfold WpStay
 try simp only[Act.put]
 have rl6:(w4.alloc (.cells x3 36)).heap[w4.heap.size]? =some (.cells x3 36 (0,0)):=hp1_0 w4 _;have hb:Below w4.heap.size w4 (w4.alloc (.cells x3 36)):=((Below.refl _ _).alloc (Nat.le_refl _) _)
 generalize (w4.alloc (.cells x3 36))=wb at *
 have ygb_0:=lt_of_row rp0;have ygb_1:=lt_of_row rp1;have ygb_2:=lt_of_row rp2;have ygb_3:=lt_of_row rl5;have ygb:=hw.size;replace rp0:=keep hb rp0;replace rp1:=keep hb rp1;replace rp2:=keep hb rp2;replace rl5:=keep hb rl5;replace hw:=Below.after hw hb;clear hb
 generalize w4.heap.size=gb at *
 clear w4
 go_wp2_with (fail)
 refine wp_region_alloc_ex 10 12 [7,8] (fun _=>.cells #[.int .u64 0,.int .u64 0,.int .u64 0,.int .u64 0,.int .u64 0,.int .u64 0,.int .u64 0,.int .u64 0,.int .u64 0,.int .u64 0,.int .u64 0,.int .u64 0,.int .u64 0,.int .u64 0,.int .u64 0,.int .u64 0] 36 (0,0)) (by kernel_rfl) (by decide) (by decide) (by kernel_rfl) (by kernel_rfl) (by kernel_rfl) (by kernel_rfl) (by kernel_rfl) (by kernel_rfl) (by kernel_rfl) (by kernel_rfl) (by decide) (by decide) ?_ ?_
 ·intro s l u
  rcases(by omega:s=10∨s=11) with rfl|rfl<;>exact⟨_,_,rfl,rfl,rfl,rfl,fun a w=>by kernel_rfl⟩
 apply Exists.intro
 constructor
 ·intro v5 hb
  have Hrp0:=keepr (keep hb rp0)
  have Hrp1:=keepr (keep hb rp1);have Hrp2:=keepr (keep hb rp2);have Hrl5:=keepr (keep hb rl5);have Hrl6:=keepr (keep hb rl6)
  skip
  clear hb;dsimp only[List.take];go_big_quiet_step (fail);refine wpQuiet_load_part rfl 36 _ rfl (w.heap.size) 0 rfl 38 ra (0,0) xr _ Hrp0.out pa0 Tryd.underlying36 rfl hx1.info ?_;simp only[Act.put,ZPd,ZPe,ZPf];go_big_quiet_step (fail);refine wpQuiet_load_part rfl 36 _ rfl (w.heap.size+1) 0 rfl 38 rb (0,0) ur _ Hrp1.out pb0 Tryd.underlying36 rfl hx2.info ?_;simp only[Act.put,ZPd,ZPe,ZPf];go_big_quiet_step (exact c6.re);go_big_quiet_step (fail);refine wpQuiet_load_part rfl 36 _ rfl (w.heap.size) 16 rfl 38 ra (0,0) yr _ Hrp0.out pa1 Tryd.underlying36 rfl hy1.info ?_;simp only[Act.put,ZPd,ZPe,ZPf];go_big_quiet_step (fail);refine wpQuiet_load_part rfl 36 _ rfl (w.heap.size+1) 16 rfl 38 rb (0,0) vr _ Hrp1.out pb1 Tryd.underlying36 rfl hy2.info ?_;simp only[Act.put,ZPd,ZPe,ZPf];go_big_quiet_step (exact c7.re);refine wpQuiet_nil ?_;rfl
 intro w8 g hb hg hd
 obtain⟨lg7,rg7⟩:=hg 7 (by simp)
 replace rg7:w8.heap[g 7]? =some (.cells #[.int .u64 0,.int .u64 0,.int .u64 0,.int .u64 0,.int .u64 0,.int .u64 0,.int .u64 0,.int .u64 0,.int .u64 0,.int .u64 0,.int .u64 0,.int .u64 0,.int .u64 0,.int .u64 0,.int .u64 0,.int .u64 0] 36 (0,0)):=rg7
 obtain⟨lg8,rg8⟩:=hg 8 (by simp)
 replace rg8:w8.heap[g 8]? =some (.cells #[.int .u64 0,.int .u64 0,.int .u64 0,.int .u64 0,.int .u64 0,.int .u64 0,.int .u64 0,.int .u64 0,.int .u64 0,.int .u64 0,.int .u64 0,.int .u64 0,.int .u64 0,.int .u64 0,.int .u64 0,.int .u64 0] 36 (0,0)):=rg8;simp only[List.drop,puts,ptrs,List.map,List.foldl,Act.put,List.setIfInBounds_toArray,List.set_cons_succ,List.set_cons_zero]
 have d8_7:=hd 8 (by simp) 7 (by simp) (by decide)
 clear hg hd
 generalize g 7=gc at *
 generalize g 8=gd at *
 have lrp0:=lt_of_row rp0;have lrp1:=lt_of_row rp1;have lrp2:=lt_of_row rp2;have lrl5:=lt_of_row rl5;have lrl6:=lt_of_row rl6;have hs:=hw.size;replace rp0:=keep hb rp0;replace rp1:=keep hb rp1;replace rp2:=keep hb rp2;replace rl5:=keep hb rl5;replace rl6:=keep hb rl6;replace hw:=Below.after hw hb;clear hb;refine wpList_store_row rfl 36 _ _ rfl gc x6 rfl rfl 36 _ rg7 h6.info (h6.fits rfl) h6.one ?_;simp only[Act.put]
 replace rp0:=(setRow_other w8 gc (w.heap.size) x6 (by omega)).trans rp0
 replace rp1:=(setRow_other w8 gc (w.heap.size+1) x6 (by omega)).trans rp1
 replace rp2:=(setRow_other w8 gc (w.heap.size+1+1) x6 (by omega)).trans rp2
 replace rl5:=(setRow_other w8 gc (ga) x6 (by omega)).trans rl5
 replace rl6:=(setRow_other w8 gc (gb) x6 (by omega)).trans rl6
 replace rg7:=setRow_heap w8 gc _ x6 _ _ rg7
 replace rg8:=(setRow_other w8 gc gd x6 (by omega)).trans rg8
 replace hw:=below_setRow hw (show w.heap.size≤gc by omega) x6
 generalize w8.setRow gc x6=w9 at *
 refine wpList_store_row rfl 36 _ _ rfl gd x7 rfl rfl 36 _ rg8 h7.info (h7.fits rfl) h7.one ?_;simp only[Act.put]
 replace rp0:=(setRow_other w9 gd (w.heap.size) x7 (by omega)).trans rp0
 replace rp1:=(setRow_other w9 gd (w.heap.size+1) x7 (by omega)).trans rp1
 replace rp2:=(setRow_other w9 gd (w.heap.size+1+1) x7 (by omega)).trans rp2
 replace rl5:=(setRow_other w9 gd (ga) x7 (by omega)).trans rl5
 replace rl6:=(setRow_other w9 gd (gb) x7 (by omega)).trans rl6
 replace rg7:=(setRow_other w9 gd gc x7 (by omega)).trans rg7
 replace rg8:=setRow_heap w9 gd _ x7 _ _ rg8
 replace hw:=below_setRow hw (show w.heap.size≤gd by omega) x7
 generalize w9.setRow gd x7=w10 at *
 have ygc_0:w.heap.size<gc:=by omega
 have ygc_1:w.heap.size+1<gc:=by omega
 have ygc_2:w.heap.size+1+1<gc:=by omega
 have ygc_3:ga<gc:=by omega
 have ygc_4:gb<gc:=by omega
 have ygc:w.heap.size≤gc:=by omega
 have ygd_0:w.heap.size<gd:=by omega
 have ygd_1:w.heap.size+1<gd:=by omega
 have ygd_2:w.heap.size+1+1<gd:=by omega
 have ygd_3:ga<gd:=by omega
 have ygd_4:gb<gd:=by omega
 have ygd:w.heap.size≤gd:=by omega
 clear hs lrp0 lrp1 lrp2 lrl5 lrl6 lg7 lg8
 go_wp2
 refine wp_region_alloc_ex 5 6 [9] (fun _=>.cells #[.int .u64 0,.int .u64 0,.int .u64 0,.int .u64 0,.int .u64 0,.int .u64 0,.int .u64 0,.int .u64 0,.int .u64 0,.int .u64 0,.int .u64 0,.int .u64 0,.int .u64 0,.int .u64 0,.int .u64 0,.int .u64 0] 36 (0,0)) (by kernel_rfl) (by decide) (by decide) (by kernel_rfl) (by kernel_rfl) (by kernel_rfl) (by kernel_rfl) (by kernel_rfl) (by kernel_rfl) (by kernel_rfl) (by kernel_rfl) (by decide) (by decide) ?_ ?_
 ·intro s l u
  rcases(by omega:s=5) with rfl<;>exact⟨_,_,rfl,rfl,rfl,rfl,fun a w=>by kernel_rfl⟩
 apply Exists.intro
 constructor
 ·intro v11 hb
  have Hrp0:=keepr (keep hb rp0)
  have Hrp1:=keepr (keep hb rp1);have Hrp2:=keepr (keep hb rp2);have Hrl5:=keepr (keep hb rl5);have Hrl6:=keepr (keep hb rl6);have Hrg7:=keepr (keep hb rg7);have Hrg8:=keepr (keep hb rg8)
  skip
  clear hb;dsimp only[List.take];go_big_quiet_step (exact c12.re);refine wpQuiet_load_row rfl 36 _ rfl (gc) rfl 36 x6 (0,0) _ Hrg7.out Tryd.underlying36 rfl h6.info ?_;simp only[Act.put,ZPd,ZPe,ZPf];go_big_quiet_step (exact c13.re);refine wpQuiet_load_row rfl 36 _ rfl (gd) rfl 36 x7 (0,0) _ Hrg8.out Tryd.underlying36 rfl h7.info ?_;simp only[Act.put,ZPd,ZPe,ZPf];go_big_quiet_step (exact c14.re);refine wpQuiet_nil ?_;rfl
 intro w15 g hb hg hd
 obtain⟨lg9,rg9⟩:=hg 9 (by simp)
 replace rg9:w15.heap[g 9]? =some (.cells #[.int .u64 0,.int .u64 0,.int .u64 0,.int .u64 0,.int .u64 0,.int .u64 0,.int .u64 0,.int .u64 0,.int .u64 0,.int .u64 0,.int .u64 0,.int .u64 0,.int .u64 0,.int .u64 0,.int .u64 0,.int .u64 0] 36 (0,0)):=rg9;simp only[List.drop,puts,ptrs,List.map,List.foldl,Act.put,List.setIfInBounds_toArray,List.set_cons_succ,List.set_cons_zero];clear hg hd
 generalize g 9=ge at *
 have lrp0:=lt_of_row rp0;have lrp1:=lt_of_row rp1;have lrp2:=lt_of_row rp2;have lrl5:=lt_of_row rl5;have lrl6:=lt_of_row rl6;have lrg7:=lt_of_row rg7;have lrg8:=lt_of_row rg8;have hs:=hw.size;replace rp0:=keep hb rp0;replace rp1:=keep hb rp1;replace rp2:=keep hb rp2;replace rl5:=keep hb rl5;replace rl6:=keep hb rl6;replace rg7:=keep hb rg7;replace rg8:=keep hb rg8;replace hw:=Below.after hw hb;clear hb;refine wpList_store_row rfl 36 _ _ rfl ge x14 rfl rfl 36 _ rg9 h14.info (h14.fits rfl) h14.one ?_;simp only[Act.put]
 replace rp0:=(setRow_other w15 ge (w.heap.size) x14 (by omega)).trans rp0
 replace rp1:=(setRow_other w15 ge (w.heap.size+1) x14 (by omega)).trans rp1
 replace rp2:=(setRow_other w15 ge (w.heap.size+1+1) x14 (by omega)).trans rp2
 replace rl5:=(setRow_other w15 ge (ga) x14 (by omega)).trans rl5
 replace rl6:=(setRow_other w15 ge (gb) x14 (by omega)).trans rl6
 replace rg7:=(setRow_other w15 ge (gc) x14 (by omega)).trans rg7
 replace rg8:=(setRow_other w15 ge (gd) x14 (by omega)).trans rg8
 replace rg9:=setRow_heap w15 ge _ x14 _ _ rg9
 replace hw:=below_setRow hw (show w.heap.size≤ge by omega) x14
 generalize w15.setRow ge x14=w16 at *
 have yge_0:w.heap.size<ge:=by omega
 have yge_1:w.heap.size+1<ge:=by omega
 have yge_2:w.heap.size+1+1<ge:=by omega
 have yge_3:ga<ge:=by omega
 have yge_4:gb<ge:=by omega
 have yge_5:gc<ge:=by omega
 have yge_6:gd<ge:=by omega
 have yge:w.heap.size≤ge:=by omega
 clear hs lrp0 lrp1 lrp2 lrl5 lrl6 lrg7 lrg8 lg9
 go_wp2
 refine wp_region_alloc_ex 6 8 [10,11] (fun _=>.cells #[.int .u64 0,.int .u64 0,.int .u64 0,.int .u64 0,.int .u64 0,.int .u64 0,.int .u64 0,.int .u64 0,.int .u64 0,.int .u64 0,.int .u64 0,.int .u64 0,.int .u64 0,.int .u64 0,.int .u64 0,.int .u64 0] 36 (0,0)) (by kernel_rfl) (by decide) (by decide) (by kernel_rfl) (by kernel_rfl) (by kernel_rfl) (by kernel_rfl) (by kernel_rfl) (by kernel_rfl) (by kernel_rfl) (by kernel_rfl) (by decide) (by decide) ?_ ?_
 ·intro s l u
  rcases(by omega:s=6∨s=7) with rfl|rfl<;>exact⟨_,_,rfl,rfl,rfl,rfl,fun a w=>by kernel_rfl⟩
 apply Exists.intro
 constructor
 ·intro v17 hb
  have Hrp0:=keepr (keep hb rp0)
  have Hrp1:=keepr (keep hb rp1);have Hrp2:=keepr (keep hb rp2);have Hrl5:=keepr (keep hb rl5);have Hrl6:=keepr (keep hb rl6);have Hrg7:=keepr (keep hb rg7);have Hrg8:=keepr (keep hb rg8);have Hrg9:=keepr (keep hb rg9)
  skip
  clear hb;dsimp only[List.take];refine wpQuiet_load_row rfl 36 _ rfl (gb) rfl 36 x3 (0,0) _ Hrl6.out Tryd.underlying36 rfl h3.info ?_;simp only[Act.put,ZPd,ZPe,ZPf];refine wpQuiet_load_row rfl 36 _ rfl (ge) rfl 36 x14 (0,0) _ Hrg9.out Tryd.underlying36 rfl h14.info ?_;simp only[Act.put,ZPd,ZPe,ZPf];go_big_quiet_step (exact c18.re);refine wpQuiet_load_row rfl 36 _ rfl (gb) rfl 36 x3 (0,0) _ Hrl6.out Tryd.underlying36 rfl h3.info ?_;simp only[Act.put,ZPd,ZPe,ZPf];refine wpQuiet_load_row rfl 36 _ rfl (ge) rfl 36 x14 (0,0) _ Hrg9.out Tryd.underlying36 rfl h14.info ?_;simp only[Act.put,ZPd,ZPe,ZPf];go_big_quiet_step (exact c19.re);refine wpQuiet_nil ?_;rfl
 intro w20 g hb hg hd
 obtain⟨lg10,rg10⟩:=hg 10 (by simp)
 replace rg10:w20.heap[g 10]? =some (.cells #[.int .u64 0,.int .u64 0,.int .u64 0,.int .u64 0,.int .u64 0,.int .u64 0,.int .u64 0,.int .u64 0,.int .u64 0,.int .u64 0,.int .u64 0,.int .u64 0,.int .u64 0,.int .u64 0,.int .u64 0,.int .u64 0] 36 (0,0)):=rg10
 obtain⟨lg11,rg11⟩:=hg 11 (by simp)
 replace rg11:w20.heap[g 11]? =some (.cells #[.int .u64 0,.int .u64 0,.int .u64 0,.int .u64 0,.int .u64 0,.int .u64 0,.int .u64 0,.int .u64 0,.int .u64 0,.int .u64 0,.int .u64 0,.int .u64 0,.int .u64 0,.int .u64 0,.int .u64 0,.int .u64 0] 36 (0,0)):=rg11;simp only[List.drop,puts,ptrs,List.map,List.foldl,Act.put,List.setIfInBounds_toArray,List.set_cons_succ,List.set_cons_zero]
 have d11_10:=hd 11 (by simp) 10 (by simp) (by decide)
 clear hg hd
 generalize g 10=gf at *
 generalize g 11=gg at *
 have lrp0:=lt_of_row rp0;have lrp1:=lt_of_row rp1;have lrp2:=lt_of_row rp2;have lrl5:=lt_of_row rl5;have lrl6:=lt_of_row rl6;have lrg7:=lt_of_row rg7;have lrg8:=lt_of_row rg8;have lrg9:=lt_of_row rg9;have hs:=hw.size;replace rp0:=keep hb rp0;replace rp1:=keep hb rp1;replace rp2:=keep hb rp2;replace rl5:=keep hb rl5;replace rl6:=keep hb rl6;replace rg7:=keep hb rg7;replace rg8:=keep hb rg8;replace rg9:=keep hb rg9;replace hw:=Below.after hw hb;clear hb;refine wpList_store_row rfl 36 _ _ rfl gf x18 rfl rfl 36 _ rg10 h18.info (h18.fits rfl) h18.one ?_;simp only[Act.put]
 replace rp0:=(setRow_other w20 gf (w.heap.size) x18 (by omega)).trans rp0
 replace rp1:=(setRow_other w20 gf (w.heap.size+1) x18 (by omega)).trans rp1
 replace rp2:=(setRow_other w20 gf (w.heap.size+1+1) x18 (by omega)).trans rp2
 replace rl5:=(setRow_other w20 gf (ga) x18 (by omega)).trans rl5
 replace rl6:=(setRow_other w20 gf (gb) x18 (by omega)).trans rl6
 replace rg7:=(setRow_other w20 gf (gc) x18 (by omega)).trans rg7
 replace rg8:=(setRow_other w20 gf (gd) x18 (by omega)).trans rg8
 replace rg9:=(setRow_other w20 gf (ge) x18 (by omega)).trans rg9
 replace rg10:=setRow_heap w20 gf _ x18 _ _ rg10
 replace rg11:=(setRow_other w20 gf gg x18 (by omega)).trans rg11
 replace hw:=below_setRow hw (show w.heap.size≤gf by omega) x18
 generalize w20.setRow gf x18=w21 at *
 refine wpList_store_row rfl 36 _ _ rfl gg x19 rfl rfl 36 _ rg11 h19.info (h19.fits rfl) h19.one ?_;simp only[Act.put]
 replace rp0:=(setRow_other w21 gg (w.heap.size) x19 (by omega)).trans rp0
 replace rp1:=(setRow_other w21 gg (w.heap.size+1) x19 (by omega)).trans rp1
 replace rp2:=(setRow_other w21 gg (w.heap.size+1+1) x19 (by omega)).trans rp2
 replace rl5:=(setRow_other w21 gg (ga) x19 (by omega)).trans rl5
 replace rl6:=(setRow_other w21 gg (gb) x19 (by omega)).trans rl6
 replace rg7:=(setRow_other w21 gg (gc) x19 (by omega)).trans rg7
 replace rg8:=(setRow_other w21 gg (gd) x19 (by omega)).trans rg8
 replace rg9:=(setRow_other w21 gg (ge) x19 (by omega)).trans rg9
 replace rg10:=(setRow_other w21 gg gf x19 (by omega)).trans rg10
 replace rg11:=setRow_heap w21 gg _ x19 _ _ rg11
 replace hw:=below_setRow hw (show w.heap.size≤gg by omega) x19
 generalize w21.setRow gg x19=w22 at *
 have ygf_0:w.heap.size<gf:=by omega
 have ygf_1:w.heap.size+1<gf:=by omega
 have ygf_2:w.heap.size+1+1<gf:=by omega
 have ygf_3:ga<gf:=by omega
 have ygf_4:gb<gf:=by omega
 have ygf_5:gc<gf:=by omega
 have ygf_6:gd<gf:=by omega
 have ygf_7:ge<gf:=by omega
 have ygf:w.heap.size≤gf:=by omega
 have ygg_0:w.heap.size<gg:=by omega
 have ygg_1:w.heap.size+1<gg:=by omega
 have ygg_2:w.heap.size+1+1<gg:=by omega
 have ygg_3:ga<gg:=by omega
 have ygg_4:gb<gg:=by omega
 have ygg_5:gc<gg:=by omega
 have ygg_6:gd<gg:=by omega
 have ygg_7:ge<gg:=by omega
 have ygg:w.heap.size≤gg:=by omega
 clear hs lrp0 lrp1 lrp2 lrl5 lrl6 lrg7 lrg8 lrg9 lg10 lg11
 go_wp2
 refine wp_region_alloc_ex 11 12 [12] (fun _=>.cells #[.int .u64 0,.int .u64 0,.int .u64 0,.int .u64 0,.int .u64 0,.int .u64 0,.int .u64 0,.int .u64 0,.int .u64 0,.int .u64 0,.int .u64 0,.int .u64 0,.int .u64 0,.int .u64 0,.int .u64 0,.int .u64 0] 36 (0,0)) (by kernel_rfl) (by decide) (by decide) (by kernel_rfl) (by kernel_rfl) (by kernel_rfl) (by kernel_rfl) (by kernel_rfl) (by kernel_rfl) (by kernel_rfl) (by kernel_rfl) (by decide) (by decide) ?_ ?_
 ·intro s l u
  rcases(by omega:s=11) with rfl<;>exact⟨_,_,rfl,rfl,rfl,rfl,fun a w=>by kernel_rfl⟩
 apply Exists.intro
 constructor
 ·intro v23 hb
  have Hrp0:=keepr (keep hb rp0)
  have Hrp1:=keepr (keep hb rp1);have Hrp2:=keepr (keep hb rp2);have Hrl5:=keepr (keep hb rl5);have Hrl6:=keepr (keep hb rl6);have Hrg7:=keepr (keep hb rg7);have Hrg8:=keepr (keep hb rg8);have Hrg9:=keepr (keep hb rg9);have Hrg10:=keepr (keep hb rg10);have Hrg11:=keepr (keep hb rg11)
  skip
  clear hb;dsimp only[List.take];go_big_quiet_step (fail);refine wpQuiet_load_part rfl 36 _ rfl (w.heap.size) 0 rfl 38 ra (0,0) xr _ Hrp0.out pa0 Tryd.underlying36 rfl hx1.info ?_;simp only[Act.put,ZPd,ZPe,ZPf];go_big_quiet_step (fail);refine wpQuiet_load_part rfl 36 _ rfl (w.heap.size+1) 16 rfl 38 rb (0,0) vr _ Hrp1.out pb1 Tryd.underlying36 rfl hy2.info ?_;simp only[Act.put,ZPd,ZPe,ZPf];go_big_quiet_step (exact c24.re);go_big_quiet_step (fail);refine wpQuiet_load_part rfl 36 _ rfl (w.heap.size) 16 rfl 38 ra (0,0) yr _ Hrp0.out pa1 Tryd.underlying36 rfl hy1.info ?_;simp only[Act.put,ZPd,ZPe,ZPf];go_big_quiet_step (fail);refine wpQuiet_load_part rfl 36 _ rfl (w.heap.size+1) 0 rfl 38 rb (0,0) ur _ Hrp1.out pb0 Tryd.underlying36 rfl hx2.info ?_;simp only[Act.put,ZPd,ZPe,ZPf];go_big_quiet_step (exact c25.re);go_big_quiet_step (exact c26.re);refine wpQuiet_nil ?_;rfl
 intro w27 g hb hg hd
 obtain⟨lg12,rg12⟩:=hg 12 (by simp)
 replace rg12:w27.heap[g 12]? =some (.cells #[.int .u64 0,.int .u64 0,.int .u64 0,.int .u64 0,.int .u64 0,.int .u64 0,.int .u64 0,.int .u64 0,.int .u64 0,.int .u64 0,.int .u64 0,.int .u64 0,.int .u64 0,.int .u64 0,.int .u64 0,.int .u64 0] 36 (0,0)):=rg12;simp only[List.drop,puts,ptrs,List.map,List.foldl,Act.put,List.setIfInBounds_toArray,List.set_cons_succ,List.set_cons_zero];clear hg hd
 generalize g 12=gk at *
 have lrp0:=lt_of_row rp0;have lrp1:=lt_of_row rp1;have lrp2:=lt_of_row rp2;have lrl5:=lt_of_row rl5;have lrl6:=lt_of_row rl6;have lrg7:=lt_of_row rg7;have lrg8:=lt_of_row rg8;have lrg9:=lt_of_row rg9;have lrg10:=lt_of_row rg10;have lrg11:=lt_of_row rg11;have hs:=hw.size;replace rp0:=keep hb rp0;replace rp1:=keep hb rp1;replace rp2:=keep hb rp2;replace rl5:=keep hb rl5;replace rl6:=keep hb rl6;replace rg7:=keep hb rg7;replace rg8:=keep hb rg8;replace rg9:=keep hb rg9;replace rg10:=keep hb rg10;replace rg11:=keep hb rg11;replace hw:=Below.after hw hb;clear hb;refine wpList_store_row rfl 36 _ _ rfl gk x26 rfl rfl 36 _ rg12 h26.info (h26.fits rfl) h26.one ?_;simp only[Act.put]
 replace rp0:=(setRow_other w27 gk (w.heap.size) x26 (by omega)).trans rp0
 replace rp1:=(setRow_other w27 gk (w.heap.size+1) x26 (by omega)).trans rp1
 replace rp2:=(setRow_other w27 gk (w.heap.size+1+1) x26 (by omega)).trans rp2
 replace rl5:=(setRow_other w27 gk (ga) x26 (by omega)).trans rl5
 replace rl6:=(setRow_other w27 gk (gb) x26 (by omega)).trans rl6
 replace rg7:=(setRow_other w27 gk (gc) x26 (by omega)).trans rg7
 replace rg8:=(setRow_other w27 gk (gd) x26 (by omega)).trans rg8
 replace rg9:=(setRow_other w27 gk (ge) x26 (by omega)).trans rg9
 replace rg10:=(setRow_other w27 gk (gf) x26 (by omega)).trans rg10
 replace rg11:=(setRow_other w27 gk (gg) x26 (by omega)).trans rg11
 replace rg12:=setRow_heap w27 gk _ x26 _ _ rg12
 replace hw:=below_setRow hw (show w.heap.size≤gk by omega) x26
 generalize w27.setRow gk x26=w28 at *
 have ygk_0:w.heap.size<gk:=by omega
 have ygk_1:w.heap.size+1<gk:=by omega
 have ygk_2:w.heap.size+1+1<gk:=by omega
 have ygk_3:ga<gk:=by omega
 have ygk_4:gb<gk:=by omega
 have ygk_5:gc<gk:=by omega
 have ygk_6:gd<gk:=by omega
 have ygk_7:ge<gk:=by omega
 have ygk_8:gf<gk:=by omega
 have ygk_9:gg<gk:=by omega
 have ygk:w.heap.size≤gk:=by omega
 clear hs lrp0 lrp1 lrp2 lrl5 lrl6 lrg7 lrg8 lrg9 lrg10 lrg11 lg12
 go_wp2
 have Hrp0:=keepr rp0;have Hrp1:=keepr rp1;have Hrp2:=keepr rp2;have Hrl5:=keepr rl5;have Hrl6:=keepr rl6;have Hrg7:=keepr rg7;have Hrg8:=keepr rg8;have Hrg9:=keepr rg9;have Hrg10:=keepr rg10;have Hrg11:=keepr rg11;have Hrg12:=keepr rg12
 refine wp_region_tail (C:=fun w'=>∃p:Regrown,w'=grow (redrawn w28 p.d) p.os) 16 _ rfl rfl rfl (by kernel_rfl) (by kernel_rfl) (by kernel_rfl) (by kernel_rfl) ⟨⟨w28.drawn+1,#[]⟩,by rw[grow_empty];rfl⟩ ?_
 dsimp only[List.set,idle];refine wpQuiet_load_row rfl 36 _ rfl (ga) rfl 36 x1 (0,0) _ Hrl5.out Tryd.underlying36 rfl h1.info ?_;simp only[Act.put,ZPd,ZPe,ZPf];refine wpQuiet_load_row rfl 36 _ rfl (gf) rfl 36 x18 (0,0) _ Hrg10.out Tryd.underlying36 rfl h18.info ?_;simp only[Act.put,ZPd,ZPe,ZPf];go_big_quiet_step (exact c29.re);refine wpQuiet_load_row rfl 36 _ rfl (gk) rfl 36 x26 (0,0) _ Hrg12.out Tryd.underlying36 rfl h26.info ?_;simp only[Act.put,ZPd,ZPe,ZPf];go_big_quiet_step (exact c30.re);refine wpQuiet_load_row rfl 36 _ rfl (ga) rfl 36 x1 (0,0) _ Hrl5.out Tryd.underlying36 rfl h1.info ?_;simp only[Act.put,ZPd,ZPe,ZPf];refine wpQuiet_load_row rfl 36 _ rfl (gg) rfl 36 x19 (0,0) _ Hrg11.out Tryd.underlying36 rfl h19.info ?_;simp only[Act.put,ZPd,ZPe,ZPf];go_big_quiet_step (exact c31.re);refine wpQuiet_load_row rfl 36 _ rfl (gd) rfl 36 x7 (0,0) _ Hrg8.out Tryd.underlying36 rfl h7.info ?_;simp only[Act.put,ZPd,ZPe,ZPf];refine wpQuiet_load_row rfl 36 _ rfl (gc) rfl 36 x6 (0,0) _ Hrg7.out Tryd.underlying36 rfl h6.info ?_;simp only[Act.put,ZPd,ZPe,ZPf];go_big_quiet_step (exact c32.re);go_big_quiet_step (exact c33.re);refine wpQuiet_load_row rfl 36 _ rfl (gf) rfl 36 x18 (0,0) _ Hrg10.out Tryd.underlying36 rfl h18.info ?_;simp only[Act.put,ZPd,ZPe,ZPf];refine wpQuiet_load_row rfl 36 _ rfl (gg) rfl 36 x19 (0,0) _ Hrg11.out Tryd.underlying36 rfl h19.info ?_;simp only[Act.put,ZPd,ZPe,ZPf];go_big_quiet_step (exact c34.re);refine wpQuiet_build rfl 38 _ rfl [(0,.agg x30),(1,.agg x33),(2,.agg x34)] rfl (r3 x30 x33 x34) (q3_built h30.size h33.size h34.size) ?_;simp only[Act.put,ZPd,ZPe,ZPf];refine wpQuiet_idle rfl rfl rfl ?_;rintro _ ⟨p,rfl⟩;have hb:=below_regrown w28 p.d p.os
 generalize grow (redrawn w28 p.d) p.os=w35 at *
 replace rp0:=keep hb rp0;replace rp1:=keep hb rp1;replace rp2:=keep hb rp2;replace rl5:=keep hb rl5;replace rl6:=keep hb rl6;replace rg7:=keep hb rg7;replace rg8:=keep hb rg8;replace rg9:=keep hb rg9;replace rg10:=keep hb rg10;replace rg11:=keep hb rg11;replace rg12:=keep hb rg12;replace hw:=Below.after hw hb;clear hb;clear Hrp0 Hrp1 Hrp2 Hrl5 Hrl6 Hrg7 Hrg8 Hrg9 Hrg10 Hrg11 Hrg12
 go_wp2_with (first|(refine wpList_store_row rfl 38 _ _ rfl (w.heap.size+1+1) (r3 x30 x33 x34) rfl rfl 38 _ rp2 (q3_info h30.size h33.size h34.size) ((show _=48 from rfl).trans (r3_size h30.size h33.size h34.size).symm) (r3_one h30.one h33.one h34.one) ?_)|fail)
 exact bodyPost_ret (v:=.agg (r3 x30 x33 x34)) (results_cell_row Tryd.results50 _ _ (w.heap.size+1+1) _ (r3 x30 x33 x34) _ _ rfl (setRow_heap _ _ _ _ _ _ rp2) Tryd.underlying38 rfl (q3_info h30.size h33.size h34.size)) rfl ⟨rfl,below_setRow hw (by omega) _⟩
set_option maxRecDepth 100000 in
set_option maxHeartbeats 8000000 in
theorem r_Double19 {r:Array Value} {P:E1} (h:ReO r P):∃t,ReO t (pl P P)∧Gives 15 #[.agg r] (.agg t):=by
 obtain⟨x1,h1,c1⟩:=r_Add19 h h
 refine⟨_,h1,fun w=>?_⟩
 go_enter Tryd.func15,Tryd.ntmps15
 iterate 9 go_step
 generalize hal_:((w.alloc (.cells r 38)).alloc (.cells #[.int .u64 0,.int .u64 0,.int .u64 0,.int .u64 0,.int .u64 0,.int .u64 0,.int .u64 0,.int .u64 0,.int .u64 0,.int .u64 0,.int .u64 0,.int .u64 0,.int .u64 0,.int .u64 0,.int .u64 0,.int .u64 0,.int .u64 0,.int .u64 0,.int .u64 0,.int .u64 0,.int .u64 0,.int .u64 0,.int .u64 0,.int .u64 0,.int .u64 0,.int .u64 0,.int .u64 0,.int .u64 0,.int .u64 0,.int .u64 0,.int .u64 0,.int .u64 0,.int .u64 0,.int .u64 0,.int .u64 0,.int .u64 0,.int .u64 0,.int .u64 0,.int .u64 0,.int .u64 0,.int .u64 0,.int .u64 0,.int .u64 0,.int .u64 0,.int .u64 0,.int .u64 0,.int .u64 0,.int .u64 0] 38))=w0
 have rp0:w0.heap[w.heap.size]? =some (.cells r 38 (0,0)):=by rw[←hal_];exact hp2_0 w _ _
 have rp1:w0.heap[w.heap.size+1]? =some (.cells #[.int .u64 0,.int .u64 0,.int .u64 0,.int .u64 0,.int .u64 0,.int .u64 0,.int .u64 0,.int .u64 0,.int .u64 0,.int .u64 0,.int .u64 0,.int .u64 0,.int .u64 0,.int .u64 0,.int .u64 0,.int .u64 0,.int .u64 0,.int .u64 0,.int .u64 0,.int .u64 0,.int .u64 0,.int .u64 0,.int .u64 0,.int .u64 0,.int .u64 0,.int .u64 0,.int .u64 0,.int .u64 0,.int .u64 0,.int .u64 0,.int .u64 0,.int .u64 0,.int .u64 0,.int .u64 0,.int .u64 0,.int .u64 0,.int .u64 0,.int .u64 0,.int .u64 0,.int .u64 0,.int .u64 0,.int .u64 0,.int .u64 0,.int .u64 0,.int .u64 0,.int .u64 0,.int .u64 0,.int .u64 0] 38 (0,0)):=by rw[←hal_];exact hp2_1 w _ _
 have hw:Below w.heap.size w w0:=by rw[←hal_];exact(((Below.refl _ _).alloc (Nat.le_refl _) _).alloc (by simp) _)
 clear hal_
 go_wp2_with (first|(refine wpList_load_want rfl 38 _ rfl (w.heap.size) rfl 38 r (0,0) _ rp0 Tryd.underlying38 rfl h.info ?_)|(refine wpList_load_want rfl 38 _ rfl (w.heap.size+1) rfl 38 #[.int .u64 0,.int .u64 0,.int .u64 0,.int .u64 0,.int .u64 0,.int .u64 0,.int .u64 0,.int .u64 0,.int .u64 0,.int .u64 0,.int .u64 0,.int .u64 0,.int .u64 0,.int .u64 0,.int .u64 0,.int .u64 0,.int .u64 0,.int .u64 0,.int .u64 0,.int .u64 0,.int .u64 0,.int .u64 0,.int .u64 0,.int .u64 0,.int .u64 0,.int .u64 0,.int .u64 0,.int .u64 0,.int .u64 0,.int .u64 0,.int .u64 0,.int .u64 0,.int .u64 0,.int .u64 0,.int .u64 0,.int .u64 0,.int .u64 0,.int .u64 0,.int .u64 0,.int .u64 0,.int .u64 0,.int .u64 0,.int .u64 0,.int .u64 0,.int .u64 0,.int .u64 0,.int .u64 0,.int .u64 0] (0,0) _ rp1 Tryd.underlying38 rfl (by kernel_rfl) ?_)|fail)
 refine(c1.at _).mono ?_;rintro e w2 ⟨rfl,hb⟩;replace rp0:=keep hb rp0;replace rp1:=keep hb rp1;replace hw:=Below.after hw hb;clear hb
 go_wp2_with (first|(refine wpList_store_row rfl 38 _ _ rfl (w.heap.size+1) x1 rfl rfl 38 _ rp1 h1.info ((show _=48 from rfl).trans h1.size.symm) h1.one ?_)|(refine wpList_load_want rfl 38 _ rfl (w.heap.size) rfl 38 r (0,0) _ rp0 Tryd.underlying38 rfl h.info ?_)|(refine wpList_load_want rfl 38 _ rfl (w.heap.size+1) rfl 38 #[.int .u64 0,.int .u64 0,.int .u64 0,.int .u64 0,.int .u64 0,.int .u64 0,.int .u64 0,.int .u64 0,.int .u64 0,.int .u64 0,.int .u64 0,.int .u64 0,.int .u64 0,.int .u64 0,.int .u64 0,.int .u64 0,.int .u64 0,.int .u64 0,.int .u64 0,.int .u64 0,.int .u64 0,.int .u64 0,.int .u64 0,.int .u64 0,.int .u64 0,.int .u64 0,.int .u64 0,.int .u64 0,.int .u64 0,.int .u64 0,.int .u64 0,.int .u64 0,.int .u64 0,.int .u64 0,.int .u64 0,.int .u64 0,.int .u64 0,.int .u64 0,.int .u64 0,.int .u64 0,.int .u64 0,.int .u64 0,.int .u64 0,.int .u64 0,.int .u64 0,.int .u64 0,.int .u64 0,.int .u64 0] (0,0) _ rp1 Tryd.underlying38 rfl (by kernel_rfl) ?_)|fail)
 exact bodyPost_ret (v:=.agg x1) (results_cell_row Tryd.results15 _ _ (w.heap.size+1) _ x1 _ _ rfl (setRow_heap _ _ _ _ _ _ rp1) Tryd.underlying38 rfl h1.info) rfl ⟨rfl,below_setRow hw (by omega) _⟩
end Go.Proofs.YtdcpcdkbhgkmlaaDoor
