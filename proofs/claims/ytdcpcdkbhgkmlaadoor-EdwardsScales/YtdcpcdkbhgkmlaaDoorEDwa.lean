import Derived.Test.YtdcpcdkbhgkmlaaDoorEGs
import Derived.Test.YtdcpcdkbhgkmlaaDoorEKa
import Derived.Deep.MidRow
namespace Go.Proofs.YtdcpcdkbhgkmlaaDoor
set_option maxRecDepth 100000
def ii:Int:=19681161376707505956807079304988542015446066515923890162744021073123829784752
theorem ii_sq:Zp (ii*ii+1):=by unfold Zp;decide+kernel
abbrev E1:=EP ec1
theorem zp_lin5 {h1 h2 h3 h4 h5 g:Int} (k1 k2 k3 k4 k5:Int) (a1:Zp h1) (a2:Zp h2) (a3:Zp h3) (a4:Zp h4) (a5:Zp h5) (e:g=k1*h1+k2*h2+k3*h3+k4*h4+k5*h5):Zp g:=e▸zp_add (zp_lin4 k1 k2 k3 k4 a1 a2 a3 a4 rfl) (zp_mul k5 a5)
theorem zp_cg {a b:Int} (h:Zp (a-b)) (hb:¬Zp b):¬Zp a:=fun ha=>hb (zp_lin2 1 (-1) ha h (by grind))
def tx (P:E1):Int:= -(ii*P.x)%prm
theorem prm_pos:(0:Int)<prm:=by decide
theorem tx_bd (P:E1):0≤tx P∧tx P<prm:=⟨Int.emod_nonneg _ (by decide),Int.emod_lt_of_pos _ prm_pos⟩
theorem y_bd (P:E1):0≤P.y∧P.y<prm:=by rw[←P.hy];exact⟨Int.emod_nonneg _ (by decide),Int.emod_lt_of_pos _ prm_pos⟩
theorem tx_ii (P:E1):Zp (tx P+ii*P.x):=zp_lin1 1 (zp_emod (-(ii*P.x))) (by unfold tx;grind)
theorem x_tx (P:E1):Zp (P.x-ii*tx P):=by
 have h1:=tx_ii P;have h2:=ii_sq
 generalize tx P=t at *
 generalize ii=i at *
 exact zp_lin2 (-i) P.x h1 h2 (by grind)
theorem tw_on (P:E1):Zp (P.y*P.y-tx P*tx P-1+ec1*tx P*tx P*P.y*P.y):=by
 have h0:=P.on;have h1:=x_tx P;have h2:=ii_sq
 generalize tx P=t at *
 generalize ii=i at *
 generalize P.x=x at *
 generalize P.y=y at *
 generalize ec1=c at *
 exact zp_lin3 1 (-(1-c*y*y)*(x+i*t)) (-(1-c*y*y)*(t*t)) h0 h1 h2 (by grind)
theorem tw_prod (P Q:E1):Zp (P.x*Q.x+tx P*tx Q):=by
 have h1:=x_tx P;have h2:=x_tx Q;have h3:=ii_sq
 generalize tx P=t at *
 generalize tx Q=u at *
 generalize ii=i at *
 exact zp_lin3 Q.x (i*t) (t*u) h1 h2 h3 (by grind)
theorem tw_den1 (P Q:E1):¬Zp (1-ec1*tx P*tx Q*P.y*Q.y):=by
 refine zp_cg ?_ (ed_plus nsq_1 P.on Q.on);have h:=tw_prod P Q
 generalize tx P=t at *
 generalize tx Q=u at *
 generalize P.x=x1 at *
 generalize Q.x=x2 at *
 generalize P.y=y1 at *
 generalize Q.y=y2 at *
 generalize ec1=c at *
 exact zp_lin1 (-(c*y1*y2)) h (by grind)
theorem tw_den2 (P Q:E1):¬Zp (1+ec1*tx P*tx Q*P.y*Q.y):=by
 refine zp_cg ?_ (ed_minus nsq_1 P.on Q.on);have h:=tw_prod P Q
 generalize tx P=t at *
 generalize tx Q=u at *
 generalize P.x=x1 at *
 generalize Q.x=x2 at *
 generalize P.y=y1 at *
 generalize Q.y=y2 at *
 generalize ec1=c at *
 exact zp_lin1 (c*y1*y2) h (by grind)
def pl (P Q:E1):E1:=EP.add nsq_1 P Q
theorem pl_x (P Q:E1):Zp (tx (pl P Q)*(1-ec1*tx P*tx Q*P.y*Q.y)-(tx P*Q.y+P.y*tx Q)):=by
 have hA:=EP.add_x nsq_1 P Q;have h1:=x_tx P;have h2:=x_tx Q;have h3:=tx_ii (pl P Q);have h4:=ii_sq
 unfold pl at *
 generalize EP.add nsq_1 P Q=R at *
 generalize tx P=t1 at *
 generalize tx Q=t2 at *
 generalize tx R=t3 at *
 generalize ii=i at *
 generalize P.x=x1 at *
 generalize P.y=y1 at *
 generalize Q.x=x2 at *
 generalize Q.y=y2 at *
 generalize R.x=x3 at *
 generalize ec1=c at *
 exact zp_lin5 (-i) (i*x3*(c*y1*y2)*x2-i*y2) (i*x3*(c*y1*y2)*(i*t1)-i*y1) (1-c*y1*y2*t1*t2) (i*x3*(c*y1*y2)*t1*t2-t1*y2-y1*t2) hA h1 h2 h3 h4 (by grind)
theorem pl_y (P Q:E1):Zp ((pl P Q).y*(1+ec1*tx P*tx Q*P.y*Q.y)-(P.y*Q.y+tx P*tx Q)):=by
 have hA:=EP.add_y nsq_1 P Q;have h:=tw_prod P Q
 unfold pl at *
 generalize EP.add nsq_1 P Q=R at *
 generalize tx P=t1 at *
 generalize tx Q=t2 at *
 generalize P.x=x1 at *
 generalize P.y=y1 at *
 generalize Q.x=x2 at *
 generalize Q.y=y2 at *
 generalize R.y=y3 at *
 generalize ec1=c at *
 exact zp_lin2 1 (y3*c*y1*y2-1) hA h (by grind)
def Sp (P:E1) (X Y Z T:Int):Prop:=¬Zp Z∧Zp (X-Z*tx P)∧Zp (Y-Z*P.y)∧Zp (T-Z*(tx P*P.y))
theorem sp_shared {P:E1} {a b c d:Int} (hb:¬Zp b) (hd:¬Zp d) (h1:Zp (tx P*b-a)) (h2:Zp (P.y*d-c)):Sp P (a*d) (c*b) (b*d) (a*c):=by
 refine⟨zp_ne_mul hb hd,?_,?_,?_⟩
 ·generalize tx P=t at *;exact zp_lin1 (-d) h1 (by grind)
 ·generalize tx P=t at *;exact zp_lin1 (-b) h2 (by grind)
 ·generalize tx P=t at *;exact zp_lin2 (-c) (-(t*b)) h1 h2 (by grind)
theorem n243332:¬Zp 243332:=by unfold Zp;decide
theorem sp_over {k N D a b:Int} (t:Int) (hk:¬Zp k) (hD:¬Zp D) (h:Zp (t*D-N)) (ha:Zp (a-k*N)) (hb:Zp (b-k*D)):¬Zp b∧Zp (t*b-a):=
 ⟨zp_cg hb (zp_ne_mul hk hD),zp_lin3 k (-1) t h ha hb (by grind)⟩
theorem sp_plus {P Q:E1} {X1 Y1 Z1 T1 X2 Y2 Z2 T2:Int} (hP:Sp P X1 Y1 Z1 T1) (hQ:Sp Q X2 Y2 Z2 T2):
 Sp (pl P Q) (((Y1+X1)*((Y2+X2)*121666)-(Y1-X1)*((Y2-X2)*121666))*(Z1*(Z2*243332)+T1*(T2*243330)))
  (((Y1+X1)*((Y2+X2)*121666)+(Y1-X1)*((Y2-X2)*121666))*(Z1*(Z2*243332)-T1*(T2*243330)))
  ((Z1*(Z2*243332)-T1*(T2*243330))*(Z1*(Z2*243332)+T1*(T2*243330)))
  (((Y1+X1)*((Y2+X2)*121666)-(Y1-X1)*((Y2-X2)*121666))*((Y1+X1)*((Y2+X2)*121666)+(Y1-X1)*((Y2-X2)*121666))):=by
 obtain⟨n1,a1,b1,c1⟩:=hP;obtain⟨n2,a2,b2,c2⟩:=hQ;have hx:=pl_x P Q;have hy:=pl_y P Q;have d1:=tw_den1 P Q;have d2:=tw_den2 P Q;have hk:¬Zp (243332*(Z1*Z2)):=zp_ne_mul n243332 (zp_ne_mul n1 n2);have he:=ec1_eq
 generalize pl P Q=R at *
 generalize hu:tx R=u at *
 generalize tx P=t1 at *
 generalize tx Q=t2 at *
 generalize P.y=y1 at *
 generalize Q.y=y2 at *
 generalize hv:R.y=ry at *
 have hA:Zp (((Y1+X1)*((Y2+X2)*121666)-(Y1-X1)*((Y2-X2)*121666))-243332*(Z1*Z2)*(t1*y2+y1*t2)):=
  zp_lin4 (243332*Y2) (243332*X2) (243332*Z1*y1) (243332*Z1*t1) a1 b1 a2 b2 (by grind)
 have hC:Zp (((Y1+X1)*((Y2+X2)*121666)+(Y1-X1)*((Y2-X2)*121666))-243332*(Z1*Z2)*(y1*y2+t1*t2)):=
  zp_lin4 (243332*X2) (243332*Y2) (243332*Z1*t1) (243332*Z1*y1) a1 b1 a2 b2 (by grind)
 have hB:Zp ((Z1*(Z2*243332)-T1*(T2*243330))-243332*(Z1*Z2)*(1-ec1*t1*t2*y1*y2)):=
  zp_lin3 (-243330*T2) (-243330*Z1*(t1*y1)) (2*Z1*Z2*t1*t2*y1*y2) c1 c2 he (by grind)
 have hD:Zp ((Z1*(Z2*243332)+T1*(T2*243330))-243332*(Z1*Z2)*(1+ec1*t1*t2*y1*y2)):=
  zp_lin3 (243330*T2) (243330*Z1*(t1*y1)) (-2*Z1*Z2*t1*t2*y1*y2) c1 c2 he (by grind)
 obtain⟨m1,q1⟩:=sp_over u hk d1 hx hA hB;obtain⟨m2,q2⟩:=sp_over ry hk d2 hy hC hD
 exact sp_shared m1 m2 (by rw[hu];exact q1) (by rw[hv];exact q2)
theorem sp_twice {P:E1} {X Y Z T:Int} (hP:Sp P X Y Z T):
 Sp (pl P P) (((X+Y)*(X+Y)-(Y*Y+X*X))*(Z*Z*2-(Y*Y-X*X))) ((Y*Y+X*X)*(Y*Y-X*X)) ((Y*Y-X*X)*(Z*Z*2-(Y*Y-X*X))) (((X+Y)*(X+Y)-(Y*Y+X*X))*(Y*Y+X*X)):=by
 obtain⟨n1,a1,b1,c1⟩:=hP;have hx:=pl_x P P;have hy:=pl_y P P;have d1:=tw_den1 P P;have d2:=tw_den2 P P;have ho:=tw_on P;have hk:¬Zp (Z*Z):=zp_ne_mul n1 n1
 generalize pl P P=R at *
 generalize hu:tx R=u at *
 generalize tx P=t at *
 generalize P.y=y at *
 generalize hv:R.y=ry at *
 have hA:Zp (((X+Y)*(X+Y)-(Y*Y+X*X))-Z*Z*(t*y+y*t)):=zp_lin2 (2*Y) (2*(Z*t)) a1 b1 (by grind)
 have hB:Zp ((Y*Y-X*X)-Z*Z*(1-ec1*t*t*y*y)):=zp_lin3 (-(X+Z*t)) (Y+Z*y) (Z*Z) a1 b1 ho (by grind)
 have hC:Zp ((Y*Y+X*X)-Z*Z*(y*y+t*t)):=zp_lin2 (X+Z*t) (Y+Z*y) a1 b1 (by grind)
 have hD:Zp ((Z*Z*2-(Y*Y-X*X))-Z*Z*(1+ec1*t*t*y*y)):=zp_lin3 (X+Z*t) (-(Y+Z*y)) (-(Z*Z)) a1 b1 ho (by grind)
 obtain⟨m1,q1⟩:=sp_over u hk d1 hx hA hB;obtain⟨m2,q2⟩:=sp_over ry hk d2 hy hC hD
 exact sp_shared m1 m2 (by rw[hu];exact q1) (by rw[hv];exact q2)
def ng (P:E1):E1:=EP.neg P
def ze:E1:=EP.zero
theorem tx_ze:tx ze=0:=by decide+kernel
theorem sp_ze:Sp ze 0 1 1 0:=by
 refine⟨zp_one,?_,?_,?_⟩
 ·rw[tx_ze];exact zp_zero
 ·exact zp_zero
 ·rw[tx_ze];exact zp_zero
theorem sp_flat {P:E1} {X Y:Int} (hx:Zp (X-tx P)) (hy:Zp (Y-P.y)):Sp P X Y 1 (X*Y):=by
 refine⟨zp_one,?_,?_,?_⟩
 ·exact zp_lin1 1 hx (by grind)
 ·exact zp_lin1 1 hy (by grind)
 ·generalize tx P=t at *;exact zp_lin2 Y t hx hy (by grind)
theorem E1.eq {P Q:E1} (h1:Zp (tx P-tx Q)) (h2:Zp (P.y-Q.y)):P=Q:=by
 refine EP.eq ?_ h2;have a:=x_tx P;have b:=x_tx Q
 generalize tx P=t at *;generalize tx Q=u at *;generalize ii=i at *
 exact zp_lin3 1 (-1) i a b h1 (by grind)
theorem zp_small {a:Int} (h0:0≤a) (h1:a<prm) (h:Zp a):a=0:=by
 unfold Zp at h;rw[Int.emod_eq_of_lt h0 h1] at h;exact h
theorem E1.eq' {P Q:E1} (h1:tx P=tx Q) (h2:P.y=Q.y):P=Q:=E1.eq (by rw[h1,Int.sub_self];exact zp_zero) (by rw[h2,Int.sub_self];exact zp_zero)
theorem sp_eq {P Q:E1} {X1 Y1 Z1 T1 X2 Y2 Z2 T2:Int} (hP:Sp P X1 Y1 Z1 T1) (hQ:Sp Q X2 Y2 Z2 T2):(X1*Z2%prm=X2*Z1%prm∧Y1*Z2%prm=Y2*Z1%prm)↔P=Q:=by
 obtain⟨n1,a1,b1,c1⟩:=hP;obtain⟨n2,a2,b2,c2⟩:=hQ;rw[←zp_sub,←zp_sub]
 constructor
 ·rintro⟨hx,hy⟩
  refine E1.eq (zp_cancel ?_ (zp_ne_mul n1 n2)) (zp_cancel ?_ (zp_ne_mul n1 n2))
  ·generalize tx P=t at *;generalize tx Q=u at *;exact zp_lin3 1 (-Z2) Z1 hx a1 a2 (by grind)
  ·exact zp_lin3 1 (-Z2) Z1 hy b1 b2 (by grind)
 ·rintro rfl
  constructor
  ·generalize tx P=t at *;exact zp_lin2 Z2 (-Z1) a1 a2 (by grind)
  ·exact zp_lin2 Z2 (-Z1) b1 b2 (by grind)
theorem mod_of {a b:Int} (h:Zp (a-b)) (h0:0≤b) (h1:b<prm):a%prm=b:=by rw[zp_sub.1 h,Int.emod_eq_of_lt h0 h1]
theorem sp_y {P:E1} {X Y Z T:Int} (hP:Sp P X Y Z T):Y*iv Z%prm=P.y:=by
 obtain⟨n1,a1,b1,c1⟩:=hP;have h:=iv_mul n1
 generalize iv Z=z at *
 exact mod_of (zp_lin2 z P.y b1 h (by grind)) (y_bd P).1 (y_bd P).2
theorem sp_x {P:E1} {X Y Z T:Int} (hP:Sp P X Y Z T):X*iv Z%prm=tx P:=by
 obtain⟨n1,a1,b1,c1⟩:=hP;have h:=iv_mul n1;have hb:=tx_bd P
 generalize iv Z=z at *
 generalize tx P=t at *
 exact mod_of (zp_lin2 z t a1 h (by grind)) hb.1 hb.2
theorem iv_cong {a b:Int} (h:Zp (a-b)):Zp (iv a-iv b):=by
 rw[zp_sub] at *
 unfold iv;exact pow_c h _
theorem iv_prod (a b:Int):iv (a*b)=iv a*iv b:=by unfold iv;exact Int.mul_pow
def pb (P:E1):Int:=P.y+57896044618658097711785492504343953926634992332820282019728792003956564819968*(tx P%2)
theorem prm_is:prm=57896044618658097711785492504343953926634992332820282019728792003956564819949:=by decide
theorem pb_bd (P:E1):0≤pb P∧pb P<115792089237316195423570985008687907853269984665640564039457584007913129639936:=by
 have h1:=y_bd P
 have h2:0≤tx P%2∧tx P%2<2:=⟨Int.emod_nonneg _ (by decide),Int.emod_lt_of_pos _ (by decide)⟩
 rw[prm_is] at h1;unfold pb;omega
end Go.Proofs.YtdcpcdkbhgkmlaaDoor
namespace Go.Proofs.YtdcpcdkbhgkmlaaDoor
set_option maxRecDepth 100000
theorem mkE_on {X Y:Int} (h:Zp (Y*Y-X*X-1+ec1*X*X*Y*Y)):Zp ((ii*X%prm)*(ii*X%prm)+(Y%prm)*(Y%prm)-1-ec1*(ii*X%prm)*(ii*X%prm)*(Y%prm)*(Y%prm)):=by
 have h1:=zp_emod (ii*X);have h2:=zp_emod Y;have h3:=ii_sq
 generalize ii*X%prm=x at *
 generalize Y%prm=y at *
 generalize ii=i at *
 generalize ec1=c at *
 exact zp_lin4 1 ((1-c*y*y)*(x+i*X)) ((1-c*y*y)*(X*X)) ((1+c*X*X)*(y+Y)) h h1 h3 h2 (by grind)
def mkE (X Y:Int) (h:Zp (Y*Y-X*X-1+ec1*X*X*Y*Y)):E1:=⟨ii*X%prm,Y%prm,Int.emod_emod _ _,Int.emod_emod _ _,mkE_on h⟩
theorem mkE_tx {X Y:Int} (h:Zp (Y*Y-X*X-1+ec1*X*X*Y*Y)):tx (mkE X Y h)=X%prm:=by
 have h1:=zp_emod (ii*X);have h3:=ii_sq
 show-(ii*(ii*X%prm))%prm=X%prm
 rw[←zp_sub]
 generalize ii*X%prm=x at *
 generalize ii=i at *
 exact zp_lin2 (-i) (-X) h1 h3 (by grind)
theorem den_y (y:Int):¬Zp (1-ec1*(y*y)):=fun h=>by
 have hy:¬Zp y:=fun g=>zp_one (zp_lin2 1 (ec1*y) h g (by grind))
 have h2:=iv_mul hy;have n:=nsq_1 (iv y)
 generalize iv y=z at *
 generalize ec1=c at *
 exact n (zp_lin2 (z*z) (c*(y*z+1)) h h2 (by grind))
def qy (y:Int):Int:=(y*y-1)*iv (1-ec1*(y*y))
theorem qy_spec (y:Int):Zp (qy y*(1-ec1*(y*y))-(y*y-1)):=by
 have h:=iv_mul (den_y y);unfold qy
 generalize iv (1-ec1*(y*y))=z at *
 generalize ec1=c at *
 exact zp_lin1 (y*y-1) h (by grind)
theorem qy_cong {y z:Int} (h:Zp (y-z)):Zp (qy y-qy z):=by
 have hs:Zp (y*y-z*z):=zp_lin1 (y+z) h (by grind)
 have hi:Zp (iv (1-ec1*(y*y))-iv (1-ec1*(z*z))):=iv_cong (by generalize ec1=c;exact zp_lin1 (-c) hs (by grind))
 unfold qy
 generalize iv (1-ec1*(y*y))=a at *
 generalize iv (1-ec1*(z*z))=b at *
 exact zp_lin2 a (z*z-1) hs hi (by grind)
theorem qy_is {y a u:Int} (hu:¬Zp u) (h1:Zp (a-u*(y*y-1))) (b:Int) (h2:Zp (b-u*(1-ec1*(y*y)))):Zp (a*iv b-qy y):=by
 have h3:=iv_mul hu
 have h4:Zp (iv b-iv u*iv (1-ec1*(y*y))):=by rw[←iv_prod];exact iv_cong h2
 unfold qy
 generalize iv (1-ec1*(y*y))=z at *
 generalize iv b=w at *
 generalize iv u=v at *
 exact zp_lin3 w ((y*y-1)*z) (u*(y*y-1)) h1 h3 h4 (by grind)
theorem tx_qy (P:E1):Zp (tx P*tx P-qy P.y):=by
 have h1:=tw_on P;have h2:=qy_spec P.y;have hd:=den_y P.y
 generalize qy P.y=q at *
 generalize tx P=t at *
 generalize P.y=y at *
 generalize ec1=c at *
 exact zp_cancel (a:=1-c*(y*y)) (zp_lin2 (-1) (-1) h1 h2 (by grind)) hd
theorem rok_of_sq {a r:Int} (h:Zp (r*r-a)):rok a=true:=by rw[←rok_c (zp_sub.1 h)];exact rok_sq r
theorem sq_cases {a b:Int} (h:Zp (a*a-b*b)):Zp (a-b)∨Zp (a+b):=zp_or (zp_lin1 1 h (by grind))
theorem zp_two_of {a:Int} (h0:0≤a) (h1:a<prm+prm) (h:Zp a):a=0∨a=prm:=by
 by_cases g:a<prm
 ·exact Or.inl (zp_small h0 g h)
 ·have hp:Zp prm:=by unfold Zp;decide
  have:=zp_small (a:=a-prm) (by omega) (by omega) (zp_lin2 1 (-1) h hp (by grind))
  exact Or.inr (by omega)
theorem neg_par {r:Int} (h:¬r%prm=0) (he:r%prm%2=0): -r%prm%2=1:=by
 have b0:0≤r%prm:=Int.emod_nonneg _ (by decide)
 have b1:r%prm<prm:=Int.emod_lt_of_pos _ prm_pos
 have hp:Zp prm:=by unfold Zp;decide
 have e: -r%prm=prm-r%prm:=mod_of (by have:=zp_emod r;generalize r%prm=m at *;exact zp_lin2 1 (-1) this hp (by grind)) (by omega) (by omega)
 rw[e]
 generalize r%prm=m at *
 rw[prm_is] at *
 omega
theorem par_eq {t r:Int} (h:Zp (t*t-r*r)) (ht:0≤t∧t<prm) (hr:0≤r∧r<prm) (hp:t%2=r%2):t=r:=by
 rw[prm_is] at ht hr
 rcases sq_cases h with g|g
 ·have:=mod_of (a:=t) (b:=r) g (by omega) (by rw[prm_is];omega)
  rw[Int.emod_eq_of_lt ht.1 (by rw[prm_is];omega)] at this
  exact this
 ·rcases zp_two_of (by omega) (by rw[prm_is];omega) g with e|e
  ·omega
  ·rw[prm_is] at e;omega
def has (y:Int) (odd:Bool):Bool:=rok (qy y)&& !(decide (rval (qy y)%prm=0)&&odd)
def xo (y:Int) (odd:Bool):Int:=if odd=true then-(rval (qy y)) else rval (qy y)
def od (b:Bool):Int:=if b=true then 1 else 0
theorem has_some {y:Int} {odd:Bool} (h:has y odd=true):∃P:E1,P.y=y%prm∧tx P=xo y odd%prm∧tx P%2=od odd:=by
 unfold has at h;rw[Bool.and_eq_true] at h;obtain⟨h1,h2⟩:=h;have hs:Zp (rval (qy y)*rval (qy y)-qy y):=zp_sub.2 (rval_sq h1);have he:=rval_even (qy y);have hq:=qy_spec y
 have hx:Zp (xo y odd*xo y odd-qy y):=by unfold xo;cases odd<;>simp only[if_true,if_false,Bool.false_eq_true]<;>generalize rval (qy y)=r at * <;>exact zp_lin1 1 hs (by grind)
 have hon:Zp (y*y-xo y odd*xo y odd-1+ec1*xo y odd*xo y odd*y*y):=by
  generalize xo y odd=x at *
  generalize qy y=q at *
  generalize ec1=c at *
  exact zp_lin2 (-1) (-(1-c*(y*y))) hq hx (by grind)
 refine⟨mkE _ y hon,rfl,mkE_tx hon,?_⟩;rw[mkE_tx]
 cases odd with
 |false=>
  simp only[xo,od,if_false,Bool.false_eq_true];exact he
 |true=>
  simp only[xo,od,if_true]
  have hz:¬rval (qy y)%prm=0:=by intro g;rw[decide_eq_true g] at h2;simp at h2
  exact neg_par hz he
theorem has_none {y:Int} {odd:Bool} (h:has y odd=false) (P:E1) (hP:P.y=y%prm):tx P%2≠od odd:=by
 have h1:=tx_qy P
 have h2:Zp (qy P.y-qy y):=qy_cong (by rw[hP];exact zp_emod y)
 have hr:rok (qy y)=true:=rok_of_sq (r:=tx P) (by generalize tx P=t at *;exact zp_lin2 1 1 h1 h2 (by grind))
 unfold has at h;rw[hr,Bool.true_and] at h
 have h3:(decide (rval (qy y)%prm=0)&&odd)=true:=by revert h;cases(decide (rval (qy y)%prm=0)&&odd)<;>simp
 rw[Bool.and_eq_true] at h3;have hz:=of_decide_eq_true h3.1;have hs:Zp (rval (qy y)*rval (qy y)-qy y):=zp_sub.2 (rval_sq hr)
 have ht:Zp (tx P):=by
  have g:Zp (tx P*tx P):=by
   generalize tx P=t at *
   generalize rval (qy y)=r at *
   exact zp_lin4 1 1 (-1) r h1 h2 hs (show Zp r from hz) (by grind)
  exact(zp_or g).elim id id
 have:=zp_small (tx_bd P).1 (tx_bd P).2 ht;rw[this,h3.2]
 decide
theorem pb_inj {P Q:E1} (h:pb P=pb Q):P=Q:=by
 have h1:=y_bd P;have h2:=y_bd Q
 have h3:0≤tx P%2∧tx P%2<2:=⟨Int.emod_nonneg _ (by decide),Int.emod_lt_of_pos _ (by decide)⟩
 have h4:0≤tx Q%2∧tx Q%2<2:=⟨Int.emod_nonneg _ (by decide),Int.emod_lt_of_pos _ (by decide)⟩
 have hy:P.y=Q.y:=by unfold pb at h;rw[prm_is] at h1 h2;omega
 have hp:tx P%2=tx Q%2:=by unfold pb at h;rw[hy] at h;omega
 refine E1.eq' (par_eq ?_ (tx_bd P) (tx_bd Q) hp) hy;have a:=tx_qy P;have b:=tx_qy Q;rw[hy] at a
 generalize tx P=t at *
 generalize tx Q=u at *
 exact zp_lin2 1 (-1) a b (by grind)
open Classical in
noncomputable def pp (N:Int):E1:=if h:∃P,pb P=N then Classical.choose h else ze
open Classical in
noncomputable def pe (N:Int):Int:=if∃P,pb P=N then 0 else 190
theorem pp_pb (P:E1):pp (pb P)=P:=by
 unfold pp;have h:∃Q,pb Q=pb P:=⟨P,rfl⟩;rw[dif_pos h];exact pb_inj (Classical.choose_spec h)
theorem pe_pb (P:E1):pe (pb P)=0:=by unfold pe;rw[if_pos ⟨P,rfl⟩]
theorem pe_no {N:Int} (h:∀P,pb P≠N):pe N=190∧pp N=ze:=by
 have g:¬∃P,pb P=N:=fun⟨P,e⟩=>h P e
 exact⟨by unfold pe;rw[if_neg g],by unfold pp;rw[dif_neg g]⟩
theorem pp_yes {N:Int} (h0:0≤N) (h1:N<115792089237316195423570985008687907853269984665640564039457584007913129639936) (hl:N%57896044618658097711785492504343953926634992332820282019728792003956564819968<prm) (h:has (N%57896044618658097711785492504343953926634992332820282019728792003956564819968) (decide (57896044618658097711785492504343953926634992332820282019728792003956564819968≤N))=true):
 pe N=0∧(pp N).y=N%57896044618658097711785492504343953926634992332820282019728792003956564819968∧tx (pp N)=xo (N%57896044618658097711785492504343953926634992332820282019728792003956564819968) (decide (57896044618658097711785492504343953926634992332820282019728792003956564819968≤N))%prm:=by
 obtain⟨P,hy,hx,hp⟩:=has_some h
 have hm:P.y=N%57896044618658097711785492504343953926634992332820282019728792003956564819968:=by rw[hy,Int.emod_eq_of_lt (by omega) hl]
 have hb:pb P=N:=by
  unfold pb;rw[hm,hp]
  by_cases g:57896044618658097711785492504343953926634992332820282019728792003956564819968≤N
  ·rw[decide_eq_true g];simp only[od,if_true];omega
  ·rw[decide_eq_false g];simp only[od,Bool.false_eq_true,if_false];omega
 rw[←hb,pe_pb,pp_pb,hb];exact⟨rfl,hm,hx⟩
theorem pp_no {N:Int} (h0:0≤N) (h1:N<115792089237316195423570985008687907853269984665640564039457584007913129639936) (h:(decide (N%57896044618658097711785492504343953926634992332820282019728792003956564819968<prm)&&has (N%57896044618658097711785492504343953926634992332820282019728792003956564819968) (decide (57896044618658097711785492504343953926634992332820282019728792003956564819968≤N)))=false):pe N=190∧pp N=ze:=by
 refine pe_no fun P hb=>?_
 have b1:=y_bd P
 have b2:0≤tx P%2∧tx P%2<2:=⟨Int.emod_nonneg _ (by decide),Int.emod_lt_of_pos _ (by decide)⟩
 have hN:N=P.y+57896044618658097711785492504343953926634992332820282019728792003956564819968*(tx P%2):=hb.symm
 have hl:N%57896044618658097711785492504343953926634992332820282019728792003956564819968=P.y:=by rw[prm_is] at b1;omega
 rw[hl,decide_eq_true b1.2,Bool.true_and] at h;refine has_none h P (Int.emod_eq_of_lt b1.1 b1.2).symm ?_;rw[prm_is] at b1
 by_cases g:57896044618658097711785492504343953926634992332820282019728792003956564819968≤N
 ·rw[decide_eq_true g];simp only[od,if_true];omega
 ·rw[decide_eq_false g];simp only[od,Bool.false_eq_true,if_false];omega
def ml (n:Nat) (P:E1):E1:=EP.mul nsq_1 n P
theorem ml_one (P:E1):ml 1 P=P:=EP.mul_one nsq_1 P
theorem ml_add (m n:Nat) (P:E1):ml (m+n) P=pl (ml m P) (ml n P):=EP.mul_add nsq_1 m n P
theorem ml_two (n:Nat) (P:E1):pl (ml n P) (ml n P)=ml (2*n) P:=by rw[Nat.two_mul,ml_add]
theorem ml_next (n:Nat) (P:E1):pl (ml n P) P=ml (n+1) P:=by rw[ml_add,ml_one]
end Go.Proofs.YtdcpcdkbhgkmlaaDoor
namespace Go.Proofs.YtdcpcdkbhgkmlaaDoor
set_option maxRecDepth 100000
open Go Go.RowKit Go.Sort
def ovw:Array Value→Nat→List Value→Array Value
 |cs,_,[]=>cs
 |cs,o,v::r=>ovw (cs.setIfInBounds o v) (o+1) r
theorem world_eq {w v:World} (h:w.heap=v.heap) (h1:w.tape=v.tape) (h2:w.drawn=v.drawn) (h3:w.os=v.os) (h4:w.output=v.output):w=v:=by
 cases w;cases v;simp_all
theorem setRow_same {w:World} {g:Nat} {cs:Array Value} {t:TypeId} {fr:Nat×Nat} (h:w.heap[g]? =some (.cells cs t fr)):w.setRow g cs=w:=by
 refine world_eq ?_ rfl rfl rfl rfl
 apply Array.ext_getElem?
 intro k
 by_cases hk:k=g
 ·subst hk;rw[setRow_heap w k cs cs t fr h,h]
 ·rw[setRow_other w g k cs hk]
theorem setRow_setRow {w:World} {g:Nat} {cs:Array Value} {t:TypeId} {fr:Nat×Nat} (h:w.heap[g]? =some (.cells cs t fr)) (a b:Array Value):(w.setRow g a).setRow g b=w.setRow g b:=by
 refine world_eq ?_ rfl rfl rfl rfl
 apply Array.ext_getElem?
 intro k
 by_cases hk:k=g
 ·subst hk;rw[setRow_heap _ k a b t fr (setRow_heap w k cs a t fr h),setRow_heap w k cs b t fr h]
 ·rw[setRow_other _ g k b hk,setRow_other w g k a hk,setRow_other w g k b hk]
theorem setCells_eq {g:Nat} {t:TypeId} {fr:Nat×Nat}:∀(vs:List Value) (o:Nat) (w:World) (cs:Array Value),w.heap[g]? =some (.cells cs t fr)→w.setCells g o vs=w.setRow g (ovw cs o vs)
 |[],_,w,cs,h=>(setRow_same h).symm
 |v::r,o,w,cs,h=>by
  have h1:w.setCell ⟨g,o,none⟩ v=w.setRow g (cs.setIfInBounds o v):=setCell_eq_setRow w g o cs t fr v h;rw[World.setCells,h1,setCells_eq r (o+1) _ (cs.setIfInBounds o v) (setRow_heap w g cs _ t fr h),setRow_setRow h];rfl
theorem there_row {w:World} {g:Nat} {cs:Array Value} {t:TypeId} (h:w.heap[g]? =some (.cells cs t (0,0))) {o n:Nat} (hn:o+n≤cs.size):w.there g o n:=by
 intro j hj;refine⟨?_,?_⟩
 ·rw[cell_of_row w g (o+j) cs t (0,0) h,Array.getElem?_eq_getElem (by omega)];rfl
 ·simp[World.frozen?,h]
theorem wpList_load_part {P:Program} {ops:Array Oper} {rest:List Oper} {o:Oper} {a:Act} {w:World} {Q:Exit→Act→World→Prop} (hw:Region.wanted o (yielded ops a.tmps)=true) (ty:TypeId) (x:Operand) (ho:o.op=.load ty x)
 (g off:Nat) (hx:a.eval x=.pointer (some ⟨g,off,none⟩)) (t:TypeId) (cs:Array Value) (fr:Nat×Nat) (part:Array Value) (d:TypeDesc) (hg:w.heap[g]? =some (.cells cs t fr)) (hp:cs.extract off (off+part.size)=part)
 (hu:P.underlying ty=some d) (hd:d.isRow=true) (hi:(P.info? ty).map (·.size)=some part.size)
 (h:wpList P ops Q rest (a.put o.dst (.agg part)) w):wpList P ops Q (o::rest) a w:=by
 refine BigFrame.wpList_want hw fun _ hK=>?_
 have hr:=World.rangeAt_of_block hg off part.size;rw[hp] at hr
 exact wp_load_mid ty x ho g off hx part.toList d hr hu hd (by simpa using hi) (hK _ _ (by simpa using h))
theorem wpQuiet_load_part {P:Program} {C:World→Prop} {ops:Array Oper} {Q:Act→Prop} {a:Act} {o:Oper} {rest:List Oper} (hw:Region.wanted o (yielded ops a.tmps)=true) (ty:TypeId) (x:Operand) (ho:o.op=.load ty x)
 (g off:Nat) (hx:a.eval x=.pointer (some ⟨g,off,none⟩)) (t:TypeId) (cs:Array Value) (fr:Nat×Nat) (part:Array Value) (d:TypeDesc) (hg:∀w,C w→w.heap[g]? =some (.cells cs t fr)) (hp:cs.extract off (off+part.size)=part)
 (hu:P.underlying ty=some d) (hd:d.isRow=true) (hi:(P.info? ty).map (·.size)=some part.size)
 (h:wpQuiet P ops C Q rest (a.put o.dst (.agg part))):wpQuiet P ops C Q (o::rest) a:=by
 refine BigFrame.wpQuiet_want hw fun K hK=>⟨.agg part,fun w hw=>?_,hK _ h⟩
 have hr:=World.rangeAt_of_block (hg w hw) off part.size;rw[hp] at hr
 have hl:=run_loadVar_mid (P:=P) w g off ty part.toList d hr hu hd (by simpa using hi)
 unfold Oper.quietAt execOp;simp only[ho,hx,Instr.loadAt,Instr.sureAddr,Sem.run_bind,Sem.run_pure,Result.andThen_ok,hl]
 exact⟨by simp,rfl⟩
theorem wpList_store_part {P:Program} {ops:Array Oper} {rest:List Oper} {o:Oper} {a:Act} {w:World} {Q:Exit→Act→World→Prop} (hgd:o.guard=none) (ty:TypeId) (x y:Operand) (ho:o.op=.store ty x y)
 (g off:Nat) (cells:Array Value) (hx:a.eval x=.pointer (some ⟨g,off,none⟩)) (hy:a.eval y=.agg cells)
 (t:TypeId) (old new:Array Value) (hg:w.heap[g]? =some (.cells old t (0,0))) (hle:off+cells.size≤old.size) (hnew:ovw old off cells.toList=new) (hi:(P.info? ty).map (·.size)=some cells.size)
 (h1:cells.all (·.oneCell')=true)
 (h:wpList P ops Q rest (a.put o.dst undef) (w.setRow g new)):wpList P ops Q (o::rest) a w:=by
 refine wpList_store_mid hgd ty x y ho g off cells hx hy (there_row hg hle) hi h1 ?_;rw[setCells_eq cells.toList off w old hg,hnew];exact h
theorem wpQuiet_build {P:Program} {C:World→Prop} {ops:Array Oper} {Q:Act→Prop} {a:Act} {o:Oper} {rest:List Oper} (hw:Region.wanted o (yielded ops a.tmps)=true) (t:TypeId) (parts:Array (Nat×Operand)) (ho:o.op=.build t parts)
 (vals:List (Nat×Value)) (hv:parts.toList.map (fun(i,x)=>(i,a.eval x))=vals) (cells:Array Value) (hb:P.built t vals=some cells)
 (h:wpQuiet P ops C Q rest (a.put o.dst (.agg cells))):wpQuiet P ops C Q (o::rest) a:=by
 rw[←Array.toList_map] at hv;subst hv
 refine BigFrame.wpQuiet_want hw fun K hK=>⟨.agg cells,fun w hw=>?_,hK _ h⟩
 unfold Oper.quietAt execOp;simp only[ho,Sem.run_bind,run_build w t _ cells hb,Result.andThen_ok];exact⟨rfl,rfl⟩
theorem wpList_build_as {P:Program} {ops:Array Oper} {rest:List Oper} {o:Oper} {a:Act} {w:World} {Q:Exit→Act→World→Prop} (hg:o.guard=none) (t:TypeId) (parts:Array (Nat×Operand)) (ho:o.op=.build t parts)
 (vals:List (Nat×Value)) (hv:parts.toList.map (fun(i,x)=>(i,a.eval x))=vals) (cells:Array Value) (hb:P.built t vals=some cells)
 (h:wpList P ops Q rest (a.put o.dst (.agg cells)) w):wpList P ops Q (o::rest) a w:=by
 rw[←Array.toList_map] at hv;subst hv
 refine wpList_build hg t parts ho (by rw[hb];rfl) ?_
 rw[hb];exact h
theorem five {r:Array Value} (h:r.size=5):∃a b c d e,r=#[a,b,c,d,e]:=by
 obtain⟨l⟩:=r
 match l,h with
 |[a,b,c,d,e],_=>exact⟨a,b,c,d,e,rfl⟩
theorem sixteen {r:Array Value} (h:r.size=16):∃a b c d e f g i j k l m n o p q,r=#[a,b,c,d,e,f,g,i,j,k,l,m,n,o,p,q]:=by
 obtain⟨l⟩:=r
 match l,h with
 |[a,b,c,d,e,f,g,i,j,k,l,m,n,o,p,q],_=>exact⟨a,b,c,d,e,f,g,i,j,k,l,m,n,o,p,q,rfl⟩
def r4 (a b c d:Array Value):Array Value:=(a.toList++(b.toList++(c.toList++d.toList))).toArray
theorem r4_size (a b c d:Array Value):(r4 a b c d).size=a.size+(b.size+(c.size+d.size)):=by simp[r4]
theorem r4_one {a b c d:Array Value} (ha:a.all (·.oneCell')=true) (hb:b.all (·.oneCell')=true) (hc:c.all (·.oneCell')=true) (hd:d.all (·.oneCell')=true):(r4 a b c d).all (·.oneCell')=true:=by
 simp only[Array.all_eq_true_iff_forall_mem] at *
 intro v hv;simp only[r4,List.mem_toArray,List.mem_append,Array.mem_toList_iff] at hv
 rcases hv with h|h|h|h
 ·exact ha v h
 ·exact hb v h
 ·exact hc v h
 ·exact hd v h
theorem r4_get0 {a b c d:Array Value} {o:Nat} (h:o=0):(r4 a b c d).extract o (o+a.size)=a:=by
 subst h
 apply Array.ext'
 simp[r4]
theorem drop_two (a b c:List Value):(a++(b++c)).drop (a.length+b.length)=c:=by
 rw[←List.append_assoc,←List.length_append,List.drop_left]
theorem r4_get1 {a b c d:Array Value} {o:Nat} (h:o=a.size):(r4 a b c d).extract o (o+b.size)=b:=by
 subst h
 apply Array.ext'
 simp[r4]
theorem r4_get2 {a b c d:Array Value} {o:Nat} (h:o=a.size+b.size):(r4 a b c d).extract o (o+c.size)=c:=by
 subst h
 apply Array.ext'
 have:=drop_two a.toList b.toList (c.toList++d.toList)
 simp[r4] at this⊢
 rw[this]
 simp
theorem r4_get3 {a b c d:Array Value} {o:Nat} (h:o=a.size+b.size+c.size):(r4 a b c d).extract o (o+d.size)=d:=by
 subst h
 apply Array.ext'
 have:=drop_two (a.toList++b.toList) c.toList d.toList
 simp[r4] at this⊢
 rw[this]
 exact List.take_of_length_le (by simp)
end Go.Proofs.YtdcpcdkbhgkmlaaDoor
