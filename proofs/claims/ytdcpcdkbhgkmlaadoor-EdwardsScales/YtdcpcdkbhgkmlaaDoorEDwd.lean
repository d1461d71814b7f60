import Derived.Test.YtdcpcdkbhgkmlaaDoorProg
import Derived.WalkKit
import Derived.WalkSpells
import Derived.WalkLawsBesides
import Derived.Lib.QuietBelow
import Derived.BigQuiet
import Derived.Test.YtdcpcdkbhgkmlaaDoorEKa
import Derived.Test.YtdcpcdkbhgkmlaaDoorEDwa
import Derived.Test.YtdcpcdkbhgkmlaaDoorEGb
import Derived.Test.YtdcpcdkbhgkmlaaDoorEGj
namespace Go.Proofs.YtdcpcdkbhgkmlaaDoor
set_option maxRecDepth 100000
open Go.RowKit Go.Sort
abbrev q20:Array Value:=#[.int .u64 0,.int .u64 0,.int .u64 0,.int .u64 0,.int .u64 0,.int .u64 0,.int .u64 0,.int .u64 0,.int .u64 0,.int .u64 0,.int .u64 0,.int .u64 0,.int .u64 0,.int .u64 0,.int .u64 0,.int .u64 0,.int .u64 0,.int .u64 0,.int .u64 0,.int .u64 0]
abbrev q32:Array Value:=#[.int .u8 0,.int .u8 0,.int .u8 0,.int .u8 0,.int .u8 0,.int .u8 0,.int .u8 0,.int .u8 0,.int .u8 0,.int .u8 0,.int .u8 0,.int .u8 0,.int .u8 0,.int .u8 0,.int .u8 0,.int .u8 0,.int .u8 0,.int .u8 0,.int .u8 0,.int .u8 0,.int .u8 0,.int .u8 0,.int .u8 0,.int .u8 0,.int .u8 0,.int .u8 0,.int .u8 0,.int .u8 0,.int .u8 0,.int .u8 0,.int .u8 0,.int .u8 0]
attribute [local go_sem] setCell_drewN alloc_drewN
theorem nums_size {a b c d:Array Value} (ha:a.size=5) (hb:b.size=5) (hc:c.size=5) (hd:d.size=5):(r4 a b c d).size=20:=by rw[r4_size,ha,hb,hc,hd]
theorem p_0 {a b c d:Array Value}:(r4 a b c d).extract 0 (0+a.size)=a:=r4_get0 rfl
theorem p5_1 {a b c d:Array Value} (ha:a.size=5):(r4 a b c d).extract 5 (5+b.size)=b:=r4_get1 ha.symm
theorem p5_2 {a b c d:Array Value} (ha:a.size=5) (hb:b.size=5):(r4 a b c d).extract 10 (10+c.size)=c:=r4_get2 (by omega)
theorem p5_3 {a b c d:Array Value} (ha:a.size=5) (hb:b.size=5) (hc:c.size=5):(r4 a b c d).extract 15 (15+d.size)=d:=r4_get3 (by omega)
theorem ovw_0 {a b c d x:Array Value} (ha:a.size=5) (hb:b.size=5) (hc:c.size=5) (hd:d.size=5) (hx:x.size=5):ovw (r4 a b c d) 0 x.toList=r4 x b c d:=by
 obtain⟨_,_,_,_,_,rfl⟩:=five ha;obtain⟨_,_,_,_,_,rfl⟩:=five hb;obtain⟨_,_,_,_,_,rfl⟩:=five hc;obtain⟨_,_,_,_,_,rfl⟩:=five hd;obtain⟨_,_,_,_,_,rfl⟩:=five hx
 kernel_rfl
theorem ovw_1 {a b c d x:Array Value} (ha:a.size=5) (hb:b.size=5) (hc:c.size=5) (hd:d.size=5) (hx:x.size=5):ovw (r4 a b c d) 5 x.toList=r4 a x c d:=by
 obtain⟨_,_,_,_,_,rfl⟩:=five ha;obtain⟨_,_,_,_,_,rfl⟩:=five hb;obtain⟨_,_,_,_,_,rfl⟩:=five hc;obtain⟨_,_,_,_,_,rfl⟩:=five hd;obtain⟨_,_,_,_,_,rfl⟩:=five hx
 kernel_rfl
theorem ovw_2 {a b c d x:Array Value} (ha:a.size=5) (hb:b.size=5) (hc:c.size=5) (hd:d.size=5) (hx:x.size=5):ovw (r4 a b c d) 10 x.toList=r4 a b x d:=by
 obtain⟨_,_,_,_,_,rfl⟩:=five ha;obtain⟨_,_,_,_,_,rfl⟩:=five hb;obtain⟨_,_,_,_,_,rfl⟩:=five hc;obtain⟨_,_,_,_,_,rfl⟩:=five hd;obtain⟨_,_,_,_,_,rfl⟩:=five hx
 kernel_rfl
theorem ovw_3 {a b c d x:Array Value} (ha:a.size=5) (hb:b.size=5) (hc:c.size=5) (hd:d.size=5) (hx:x.size=5):ovw (r4 a b c d) 15 x.toList=r4 a b c x:=by
 obtain⟨_,_,_,_,_,rfl⟩:=five ha;obtain⟨_,_,_,_,_,rfl⟩:=five hb;obtain⟨_,_,_,_,_,rfl⟩:=five hc;obtain⟨_,_,_,_,_,rfl⟩:=five hd;obtain⟨_,_,_,_,_,rfl⟩:=five hx
 kernel_rfl
theorem sp_ty:(Tryd.prog.info? 75).map (·.size)=some 20:=by kernel_rfl
theorem sp_info {a b c d:Array Value} (ha:a.size=5) (hb:b.size=5) (hc:c.size=5) (hd:d.size=5):(Tryd.prog.info? 75).map (·.size)=some (r4 a b c d).size:=by rw[nums_size ha hb hc hd];exact sp_ty
theorem sp_built {a b c d:Array Value} (ha:a.size=5) (hb:b.size=5) (hc:c.size=5) (hd:d.size=5):Tryd.prog.built 75 [(0,.agg a),(1,.agg b),(2,.agg c),(3,.agg d)]=some (r4 a b c d):=by
 obtain⟨_,_,_,_,_,rfl⟩:=five ha;obtain⟨_,_,_,_,_,rfl⟩:=five hb;obtain⟨_,_,_,_,_,rfl⟩:=five hc;obtain⟨_,_,_,_,_,rfl⟩:=five hd
 kernel_rfl
theorem ad_ty:(Tryd.prog.info? 104).map (·.size)=some 20:=by kernel_rfl
theorem ad_info {a b c d:Array Value} (ha:a.size=5) (hb:b.size=5) (hc:c.size=5) (hd:d.size=5):(Tryd.prog.info? 104).map (·.size)=some (r4 a b c d).size:=by rw[nums_size ha hb hc hd];exact ad_ty
theorem ad_built {a b c d:Array Value} (ha:a.size=5) (hb:b.size=5) (hc:c.size=5) (hd:d.size=5):Tryd.prog.built 104 [(0,.agg a),(1,.agg b),(2,.agg c),(3,.agg d)]=some (r4 a b c d):=by
 obtain⟨_,_,_,_,_,rfl⟩:=five ha;obtain⟨_,_,_,_,_,rfl⟩:=five hb;obtain⟨_,_,_,_,_,rfl⟩:=five hc;obtain⟨_,_,_,_,_,rfl⟩:=five hd
 kernel_rfl
theorem pt_ty:(Tryd.prog.info? 30).map (·.size)=some 20:=by kernel_rfl
theorem pt_info {a b c d:Array Value} (ha:a.size=5) (hb:b.size=5) (hc:c.size=5) (hd:d.size=5):(Tryd.prog.info? 30).map (·.size)=some (r4 a b c d).size:=by rw[nums_size ha hb hc hd];exact pt_ty
theorem pt_built {a b c d:Array Value} (ha:a.size=5) (hb:b.size=5) (hc:c.size=5) (hd:d.size=5):Tryd.prog.built 30 [(0,.agg a),(1,.agg b),(2,.agg c),(3,.agg d)]=some (r4 a b c d):=by
 obtain⟨_,_,_,_,_,rfl⟩:=five ha;obtain⟨_,_,_,_,_,rfl⟩:=five hb;obtain⟨_,_,_,_,_,rfl⟩:=five hc;obtain⟨_,_,_,_,_,rfl⟩:=five hd
 kernel_rfl
def SpO (r:Array Value) (P:E1):Prop:=∃xr yr zr tr X Y Z T,r=r4 xr yr zr tr∧NumOf xr X∧NumOf yr Y∧NumOf zr Z∧NumOf tr T∧Sp P X Y Z T
theorem SpO.size {r:Array Value} {P:E1} (h:SpO r P):r.size=20:=by
 obtain⟨xr,yr,zr,tr,X,Y,Z,T,rfl,hx,hy,hz,ht,_⟩:=h;exact nums_size hx.size hy.size hz.size ht.size
theorem SpO.info {r:Array Value} {P:E1} (h:SpO r P):(Tryd.prog.info? 75).map (·.size)=some r.size:=by rw[h.size];exact sp_ty
theorem SpO.one {r:Array Value} {P:E1} (h:SpO r P):r.all (·.oneCell')=true:=by
 obtain⟨xr,yr,zr,tr,X,Y,Z,T,rfl,hx,hy,hz,ht,_⟩:=h;exact r4_one hx.one hy.one hz.one ht.one
def AdO (r:Array Value) (P:E1):Prop:=∃xr yr zr tr X Y Z T,r=r4 xr yr zr tr∧NumOf xr ((Y-X)*121666)∧NumOf yr ((Y+X)*121666)∧NumOf zr (Z*243332)∧NumOf tr (T*243330)∧Sp P X Y Z T
theorem AdO.size {r:Array Value} {P:E1} (h:AdO r P):r.size=20:=by
 obtain⟨xr,yr,zr,tr,X,Y,Z,T,rfl,hx,hy,hz,ht,_⟩:=h;exact nums_size hx.size hy.size hz.size ht.size
theorem AdO.info {r:Array Value} {P:E1} (h:AdO r P):(Tryd.prog.info? 104).map (·.size)=some r.size:=by rw[h.size];exact ad_ty
theorem AdO.one {r:Array Value} {P:E1} (h:AdO r P):r.all (·.oneCell')=true:=by
 obtain⟨xr,yr,zr,tr,X,Y,Z,T,rfl,hx,hy,hz,ht,_⟩:=h;exact r4_one hx.one hy.one hz.one ht.one
def PtO (r:Array Value) (P:E1):Prop:=∃xr yr zr tr X Y Z T,r=r4 xr yr zr tr∧NumOf xr X∧NumOf yr Y∧NumOf zr Z∧NumOf tr T∧Sp P X (Y+1) (Z+1) T
theorem PtO.size {r:Array Value} {P:E1} (h:PtO r P):r.size=20:=by
 obtain⟨xr,yr,zr,tr,X,Y,Z,T,rfl,hx,hy,hz,ht,_⟩:=h;exact nums_size hx.size hy.size hz.size ht.size
theorem PtO.info {r:Array Value} {P:E1} (h:PtO r P):(Tryd.prog.info? 30).map (·.size)=some r.size:=by rw[h.size];exact pt_ty
theorem PtO.one {r:Array Value} {P:E1} (h:PtO r P):r.all (·.oneCell')=true:=by
 obtain⟨xr,yr,zr,tr,X,Y,Z,T,rfl,hx,hy,hz,ht,_⟩:=h;exact r4_one hx.one hy.one hz.one ht.one
theorem pt_zero:PtO q20 ze:=⟨#[.int .u64 0,.int .u64 0,.int .u64 0,.int .u64 0,.int .u64 0],#[.int .u64 0,.int .u64 0,.int .u64 0,.int .u64 0,.int .u64 0],#[.int .u64 0,.int .u64 0,.int .u64 0,.int .u64 0,.int .u64 0],#[.int .u64 0,.int .u64 0,.int .u64 0,.int .u64 0,.int .u64 0],0,0,0,0,rfl,num_zero,num_zero,num_zero,num_zero,sp_ze⟩
theorem a_inv {r:Array Value} {x:Int} (h:NumOf r x):∃s,NumOf s (iv x)∧Gives 41 #[.agg r] (.agg s):=by unfold iv;exact a_invert h
set_option maxRecDepth 100000 in
set_option maxHeartbeats 8000000 in
theorem w_shared {ra rb rc rd':Array Value} {A B C D:Int} (ha:NumOf ra A) (hb:NumOf rb B) (hc:NumOf rc C) (hd:NumOf rd' D):
 ∃xr yr zr tr,NumOf xr (A*D)∧NumOf yr (C*B)∧NumOf zr (B*D)∧NumOf tr (A*C)∧Gives 99 #[.agg ra,.agg rb,.agg rc,.agg rd'] (.agg (r4 xr yr zr tr)):=by
 obtain⟨x1,h1,c1⟩:=a_mul ha hd;obtain⟨x2,h2,c2⟩:=a_mul hc hb;obtain⟨x3,h3,c3⟩:=a_mul hb hd;obtain⟨x4,h4,c4⟩:=a_mul ha hc
 refine⟨x1,x2,x3,x4,h1,h2,h3,h4,fun w=>?_⟩
 go_enter Tryd.func99,Tryd.ntmps99
 go_wp2
 have rp0:(((((w.alloc (.cells ra 28)).alloc (.cells rb 28)).alloc (.cells rc 28)).alloc (.cells rd' 28)).alloc (.cells q20 75)).heap[w.heap.size]? =some (.cells ra 28 (0,0)):=hp5_0 w _ _ _ _ _;have rp1:(((((w.alloc (.cells ra 28)).alloc (.cells rb 28)).alloc (.cells rc 28)).alloc (.cells rd' 28)).alloc (.cells q20 75)).heap[w.heap.size+1]? =some (.cells rb 28 (0,0)):=hp5_1 w _ _ _ _ _;have rp2:(((((w.alloc (.cells ra 28)).alloc (.cells rb 28)).alloc (.cells rc 28)).alloc (.cells rd' 28)).alloc (.cells q20 75)).heap[w.heap.size+1+1]? =some (.cells rc 28 (0,0)):=hp5_2 w _ _ _ _ _;have rp3:(((((w.alloc (.cells ra 28)).alloc (.cells rb 28)).alloc (.cells rc 28)).alloc (.cells rd' 28)).alloc (.cells q20 75)).heap[w.heap.size+1+1+1]? =some (.cells rd' 28 (0,0)):=hp5_3 w _ _ _ _ _;have rp4:(((((w.alloc (.cells ra 28)).alloc (.cells rb 28)).alloc (.cells rc 28)).alloc (.cells rd' 28)).alloc (.cells q20 75)).heap[w.heap.size+1+1+1+1]? =some (.cells q20 75 (0,0)):=hp5_4 w _ _ _ _ _
 have hw:Below w.heap.size w (((((w.alloc (.cells ra 28)).alloc (.cells rb 28)).alloc (.cells rc 28)).alloc (.cells rd' 28)).alloc (.cells q20 75)):=((((((Below.refl _ _).alloc (Nat.le_refl _) _).alloc (by simp) _).alloc (by simp;omega) _).alloc (by simp;omega) _).alloc (by simp;omega) _)
 generalize (((((w.alloc (.cells ra 28)).alloc (.cells rb 28)).alloc (.cells rc 28)).alloc (.cells rd' 28)).alloc (.cells q20 75))=w0 at *
 have Hrp0:=keepr rp0;have Hrp1:=keepr rp1;have Hrp2:=keepr rp2;have Hrp3:=keepr rp3;have Hrp4:=keepr rp4
 refine wp_region_tail (C:=fun w'=>∃p:Regrown,w'=grow (redrawn w0 p.d) p.os) 13 _ rfl rfl rfl (by kernel_rfl) (by kernel_rfl) (by kernel_rfl) (by kernel_rfl) ⟨⟨w0.drawn+1,#[]⟩,by rw[grow_empty];rfl⟩ ?_
 dsimp only[List.set,idle];refine wpQuiet_load_row rfl 28 _ rfl (w.heap.size) rfl 28 ra (0,0) _ Hrp0.out Tryd.underlying28 rfl ha.info ?_;simp only[Act.put,ZPd,ZPe,ZPf];refine wpQuiet_load_row rfl 28 _ rfl (w.heap.size+1+1+1) rfl 28 rd' (0,0) _ Hrp3.out Tryd.underlying28 rfl hd.info ?_;simp only[Act.put,ZPd,ZPe,ZPf];go_big_quiet_step (exact c1.re);refine wpQuiet_load_row rfl 28 _ rfl (w.heap.size+1+1) rfl 28 rc (0,0) _ Hrp2.out Tryd.underlying28 rfl hc.info ?_;simp only[Act.put,ZPd,ZPe,ZPf];refine wpQuiet_load_row rfl 28 _ rfl (w.heap.size+1) rfl 28 rb (0,0) _ Hrp1.out Tryd.underlying28 rfl hb.info ?_;simp only[Act.put,ZPd,ZPe,ZPf];go_big_quiet_step (exact c2.re);refine wpQuiet_load_row rfl 28 _ rfl (w.heap.size+1) rfl 28 rb (0,0) _ Hrp1.out Tryd.underlying28 rfl hb.info ?_;simp only[Act.put,ZPd,ZPe,ZPf];refine wpQuiet_load_row rfl 28 _ rfl (w.heap.size+1+1+1) rfl 28 rd' (0,0) _ Hrp3.out Tryd.underlying28 rfl hd.info ?_;simp only[Act.put,ZPd,ZPe,ZPf];go_big_quiet_step (exact c3.re);refine wpQuiet_load_row rfl 28 _ rfl (w.heap.size) rfl 28 ra (0,0) _ Hrp0.out Tryd.underlying28 rfl ha.info ?_;simp only[Act.put,ZPd,ZPe,ZPf];refine wpQuiet_load_row rfl 28 _ rfl (w.heap.size+1+1) rfl 28 rc (0,0) _ Hrp2.out Tryd.underlying28 rfl hc.info ?_;simp only[Act.put,ZPd,ZPe,ZPf];go_big_quiet_step (exact c4.re);refine wpQuiet_build rfl 75 _ rfl [(0,.agg x1),(1,.agg x2),(2,.agg x3),(3,.agg x4)] rfl (r4 x1 x2 x3 x4) (sp_built h1.size h2.size h3.size h4.size) ?_;simp only[Act.put,ZPd,ZPe,ZPf];refine wpQuiet_idle rfl rfl rfl ?_;rintro _ ⟨p,rfl⟩;have hb:=below_regrown w0 p.d p.os
 generalize grow (redrawn w0 p.d) p.os=w5 at *
 replace rp0:=keep hb rp0;replace rp1:=keep hb rp1;replace rp2:=keep hb rp2;replace rp3:=keep hb rp3;replace rp4:=keep hb rp4;replace hw:=Below.after hw hb;clear hb;clear Hrp0 Hrp1 Hrp2 Hrp3 Hrp4
 go_wp2_with (first|(refine wpList_store_row rfl 75 _ _ rfl (w.heap.size+1+1+1+1) (r4 x1 x2 x3 x4) rfl rfl 75 _ rp4 (sp_info h1.size h2.size h3.size h4.size) ((show _=20 from rfl).trans (nums_size h1.size h2.size h3.size h4.size).symm) (r4_one h1.one h2.one h3.one h4.one) ?_)|fail)
 exact bodyPost_ret (v:=.agg (r4 x1 x2 x3 x4)) (results_cell_row Tryd.results99 _ _ (w.heap.size+1+1+1+1) _ (r4 x1 x2 x3 x4) _ _ rfl (setRow_heap _ _ _ _ _ _ rp4) Tryd.underlying75 rfl (sp_info h1.size h2.size h3.size h4.size)) rfl ⟨rfl,below_setRow hw (by omega) _⟩
set_option maxRecDepth 100000 in
set_option maxHeartbeats 8000000 in
theorem a_flat {xr yr:Array Value} {X Y:Int} {P:E1} (hx:NumOf xr X) (hy:NumOf yr Y) (gx:Zp (X-tx P)) (gy:Zp (Y-P.y)):∃t,SpO t P∧Gives 49 #[.agg xr,.agg yr] (.agg t):=by
 obtain⟨x1,h1,c1⟩:=a_small 1 (by decide) (by decide)
 obtain⟨x2,h2,c2⟩:=a_mul hx hy
 refine⟨_,⟨xr,yr,x1,x2,_,_,_,_,rfl,hx,hy,h1,h2,sp_flat gx gy⟩,fun w=>?_⟩
 go_enter Tryd.func49,Tryd.ntmps49
 go_wp2
 have rp0:(((w.alloc (.cells xr 28)).alloc (.cells yr 28)).alloc (.cells q20 75)).heap[w.heap.size]? =some (.cells xr 28 (0,0)):=hp3_0 w _ _ _;have rp1:(((w.alloc (.cells xr 28)).alloc (.cells yr 28)).alloc (.cells q20 75)).heap[w.heap.size+1]? =some (.cells yr 28 (0,0)):=hp3_1 w _ _ _;have rp2:(((w.alloc (.cells xr 28)).alloc (.cells yr 28)).alloc (.cells q20 75)).heap[w.heap.size+1+1]? =some (.cells q20 75 (0,0)):=hp3_2 w _ _ _
 have hw:Below w.heap.size w (((w.alloc (.cells xr 28)).alloc (.cells yr 28)).alloc (.cells q20 75)):=((((Below.refl _ _).alloc (Nat.le_refl _) _).alloc (by simp) _).alloc (by simp;omega) _)
 generalize (((w.alloc (.cells xr 28)).alloc (.cells yr 28)).alloc (.cells q20 75))=w0 at *
 have Hrp0:=keepr rp0;have Hrp1:=keepr rp1;have Hrp2:=keepr rp2
 refine wp_region_tail (C:=fun w'=>∃p:Regrown,w'=grow (redrawn w0 p.d) p.os) 7 _ rfl rfl rfl (by kernel_rfl) (by kernel_rfl) (by kernel_rfl) (by kernel_rfl) ⟨⟨w0.drawn+1,#[]⟩,by rw[grow_empty];rfl⟩ ?_
 dsimp only[List.set,idle];refine wpQuiet_load_row rfl 28 _ rfl (w.heap.size) rfl 28 xr (0,0) _ Hrp0.out Tryd.underlying28 rfl hx.info ?_;simp only[Act.put,ZPd,ZPe,ZPf];refine wpQuiet_load_row rfl 28 _ rfl (w.heap.size+1) rfl 28 yr (0,0) _ Hrp1.out Tryd.underlying28 rfl hy.info ?_;simp only[Act.put,ZPd,ZPe,ZPf];go_big_quiet_step (exact c1.re);refine wpQuiet_load_row rfl 28 _ rfl (w.heap.size) rfl 28 xr (0,0) _ Hrp0.out Tryd.underlying28 rfl hx.info ?_;simp only[Act.put,ZPd,ZPe,ZPf];refine wpQuiet_load_row rfl 28 _ rfl (w.heap.size+1) rfl 28 yr (0,0) _ Hrp1.out Tryd.underlying28 rfl hy.info ?_;simp only[Act.put,ZPd,ZPe,ZPf];go_big_quiet_step (exact c2.re);refine wpQuiet_build rfl 75 _ rfl [(0,.agg xr),(1,.agg yr),(2,.agg x1),(3,.agg x2)] rfl (r4 xr yr x1 x2) (sp_built hx.size hy.size h1.size h2.size) ?_;simp only[Act.put,ZPd,ZPe,ZPf];refine wpQuiet_idle rfl rfl rfl ?_;rintro _ ⟨p,rfl⟩;have hb:=below_regrown w0 p.d p.os
 generalize grow (redrawn w0 p.d) p.os=w3 at *
 replace rp0:=keep hb rp0;replace rp1:=keep hb rp1;replace rp2:=keep hb rp2;replace hw:=Below.after hw hb;clear hb;clear Hrp0 Hrp1 Hrp2
 go_wp2_with (first|(refine wpList_store_row rfl 75 _ _ rfl (w.heap.size+1+1) (r4 xr yr x1 x2) rfl rfl 75 _ rp2 (sp_info hx.size hy.size h1.size h2.size) ((show _=20 from rfl).trans (nums_size hx.size hy.size h1.size h2.size).symm) (r4_one hx.one hy.one h1.one h2.one) ?_)|fail)
 exact bodyPost_ret (v:=.agg (r4 xr yr x1 x2)) (results_cell_row Tryd.results49 _ _ (w.heap.size+1+1) _ (r4 xr yr x1 x2) _ _ rfl (setRow_heap _ _ _ _ _ _ rp2) Tryd.underlying75 rfl (sp_info hx.size hy.size h1.size h2.size)) rfl ⟨rfl,below_setRow hw (by omega) _⟩
set_option maxRecDepth 100000 in
set_option maxHeartbeats 8000000 in
theorem a_ready {r:Array Value} {P:E1} (h:SpO r P):∃t,AdO t P∧Gives4 74 #[.agg r] (.agg t):=by
 obtain⟨xr,yr,zr,tr,X,Y,Z,T,rfl,hx,hy,hz,ht,hP⟩:=h;obtain⟨x1,h1,c1⟩:=a_sub hy hx
 obtain⟨x2,h2,c2⟩:=a_times h1 121666 (by decide) (by decide)
 obtain⟨x3,h3,c3⟩:=a_add hy hx
 obtain⟨x4,h4,c4⟩:=a_times h3 121666 (by decide) (by decide)
 obtain⟨x5,h5,c5⟩:=a_times hz 243332 (by decide) (by decide)
 obtain⟨x6,h6,c6⟩:=a_times ht 243330 (by decide) (by decide)
 refine⟨_,⟨x2,x4,x5,x6,_,_,_,_,rfl,h2,h4,h5,h6,hP⟩,fun w hF=>?_⟩
 go_enter Tryd.func74,Tryd.ntmps74
 go_wp2
 have rp0:((w.alloc (.cells (r4 xr yr zr tr) 75)).alloc (.cells q20 104)).heap[w.heap.size]? =some (.cells (r4 xr yr zr tr) 75 (0,0)):=hp2_0 w _ _;have rp1:((w.alloc (.cells (r4 xr yr zr tr) 75)).alloc (.cells q20 104)).heap[w.heap.size+1]? =some (.cells q20 104 (0,0)):=hp2_1 w _ _
 have hw:Below w.heap.size w ((w.alloc (.cells (r4 xr yr zr tr) 75)).alloc (.cells q20 104)):=(((Below.refl _ _).alloc (Nat.le_refl _) _).alloc (by simp) _)
 have hz0:=hF.1;have f4:Four ((w.alloc (.cells (r4 xr yr zr tr) 75)).alloc (.cells q20 104)):=((hF.alloc _).alloc _)
 generalize ((w.alloc (.cells (r4 xr yr zr tr) 75)).alloc (.cells q20 104))=w0 at *
 have Hrp0:=keepr rp0;have Hrp1:=keepr rp1
 refine wp_region_tail (C:=fun w'=>∃p:Regrown,w'=grow (redrawn w0 p.d) p.os) 19 _ rfl rfl rfl (by kernel_rfl) (by kernel_rfl) (by kernel_rfl) (by kernel_rfl) ⟨⟨w0.drawn+1,#[]⟩,by rw[grow_empty];rfl⟩ ?_
 dsimp only[List.set,idle];go_big_quiet_step (fail);refine wpQuiet_load_part rfl 28 _ rfl (w.heap.size) 5 rfl 75 (r4 xr yr zr tr) (0,0) yr _ Hrp0.out (p5_1 hx.size) Tryd.underlying28 rfl hy.info ?_;simp only[Act.put,ZPd,ZPe,ZPf];go_big_quiet_step (fail);refine wpQuiet_load_part rfl 28 _ rfl (w.heap.size) 0 rfl 75 (r4 xr yr zr tr) (0,0) xr _ Hrp0.out p_0 Tryd.underlying28 rfl hx.info ?_;simp only[Act.put,ZPd,ZPe,ZPf];go_big_quiet_step (exact c1.re f4);go_big_quiet_step (exact c2.re);go_big_quiet_step (fail);refine wpQuiet_load_part rfl 28 _ rfl (w.heap.size) 5 rfl 75 (r4 xr yr zr tr) (0,0) yr _ Hrp0.out (p5_1 hx.size) Tryd.underlying28 rfl hy.info ?_;simp only[Act.put,ZPd,ZPe,ZPf];go_big_quiet_step (fail);refine wpQuiet_load_part rfl 28 _ rfl (w.heap.size) 0 rfl 75 (r4 xr yr zr tr) (0,0) xr _ Hrp0.out p_0 Tryd.underlying28 rfl hx.info ?_;simp only[Act.put,ZPd,ZPe,ZPf];go_big_quiet_step (exact c3.re);go_big_quiet_step (exact c4.re);go_big_quiet_step (fail);refine wpQuiet_load_part rfl 28 _ rfl (w.heap.size) 10 rfl 75 (r4 xr yr zr tr) (0,0) zr _ Hrp0.out (p5_2 hx.size hy.size) Tryd.underlying28 rfl hz.info ?_;simp only[Act.put,ZPd,ZPe,ZPf];go_big_quiet_step (exact c5.re);go_big_quiet_step (fail);refine wpQuiet_load_part rfl 28 _ rfl (w.heap.size) 15 rfl 75 (r4 xr yr zr tr) (0,0) tr _ Hrp0.out (p5_3 hx.size hy.size hz.size) Tryd.underlying28 rfl ht.info ?_;simp only[Act.put,ZPd,ZPe,ZPf];go_big_quiet_step (exact c6.re);refine wpQuiet_build rfl 104 _ rfl [(0,.agg x2),(1,.agg x4),(2,.agg x5),(3,.agg x6)] rfl (r4 x2 x4 x5 x6) (ad_built h2.size h4.size h5.size h6.size) ?_;simp only[Act.put,ZPd,ZPe,ZPf];refine wpQuiet_idle rfl rfl rfl ?_;rintro _ ⟨p,rfl⟩;have hb:=below_regrown w0 p.d p.os
 generalize grow (redrawn w0 p.d) p.os=w7 at *
 replace rp0:=keep hb rp0;replace rp1:=keep hb rp1;replace hw:=Below.after hw hb;replace f4:=f4.below hb;clear hb;clear Hrp0 Hrp1
 go_wp2_with (first|(refine wpList_store_row rfl 104 _ _ rfl (w.heap.size+1) (r4 x2 x4 x5 x6) rfl rfl 104 _ rp1 (ad_info h2.size h4.size h5.size h6.size) ((show _=20 from rfl).trans (nums_size h2.size h4.size h5.size h6.size).symm) (r4_one h2.one h4.one h5.one h6.one) ?_)|fail)
 exact bodyPost_ret (v:=.agg (r4 x2 x4 x5 x6)) (results_cell_row Tryd.results74 _ _ (w.heap.size+1) _ (r4 x2 x4 x5 x6) _ _ rfl (setRow_heap _ _ _ _ _ _ rp1) Tryd.underlying104 rfl (ad_info h2.size h4.size h5.size h6.size)) rfl ⟨rfl,below_setRow hw (by omega) _⟩
set_option maxRecDepth 100000 in
set_option maxHeartbeats 8000000 in
theorem a_spot {r:Array Value} {P:E1} (h:PtO r P):∃t,SpO t P∧Gives 38 #[.agg r] (.agg t):=by
 obtain⟨xr,yr,zr,tr,X,Y,Z,T,rfl,hx,hy,hz,ht,hP⟩:=h
 obtain⟨x1,h1,c1⟩:=a_small 1 (by decide) (by decide)
 obtain⟨x3,h3,c3⟩:=a_add hy h1;obtain⟨x4,h4,c4⟩:=a_add hz h1
 refine⟨_,⟨xr,x3,x4,tr,_,_,_,_,rfl,hx,h3,h4,ht,hP⟩,fun w=>?_⟩
 have rp0:((w.alloc (.cells (r4 xr yr zr tr) 30)).alloc (.cells q20 75)).heap[w.heap.size]? =some (.cells (r4 xr yr zr tr) 30 (0,0)):=hp2_0 w _ _;have rp1:((w.alloc (.cells (r4 xr yr zr tr) 30)).alloc (.cells q20 75)).heap[w.heap.size+1]? =some (.cells q20 75 (0,0)):=hp2_1 w _ _
 have hw:Below w.heap.size w ((w.alloc (.cells (r4 xr yr zr tr) 30)).alloc (.cells q20 75)):=(((Below.refl _ _).alloc (Nat.le_refl _) _).alloc (by simp) _)
 go_enter Tryd.func38,Tryd.ntmps38
 iterate 9 go_step
 generalize ((w.alloc (.cells (r4 xr yr zr tr) 30)).alloc (.cells q20 75))=w0 at *
 go_wp2_with (first|(refine wpList_load_want rfl 30 _ rfl (w.heap.size) rfl 30 (r4 xr yr zr tr) (0,0) _ rp0 Tryd.underlying30 rfl (pt_info hx.size hy.size hz.size ht.size) ?_)|(refine wpList_load_want rfl 75 _ rfl (w.heap.size+1) rfl 75 q20 (0,0) _ rp1 Tryd.underlying75 rfl (by kernel_rfl) ?_)|(refine wpList_load_part rfl 28 _ rfl (w.heap.size) 0 rfl 30 (r4 xr yr zr tr) (0,0) xr _ rp0 p_0 Tryd.underlying28 rfl hx.info ?_)|(refine wpList_load_part rfl 28 _ rfl (w.heap.size) 5 rfl 30 (r4 xr yr zr tr) (0,0) yr _ rp0 (p5_1 hx.size) Tryd.underlying28 rfl hy.info ?_)|(refine wpList_load_part rfl 28 _ rfl (w.heap.size) 10 rfl 30 (r4 xr yr zr tr) (0,0) zr _ rp0 (p5_2 hx.size hy.size) Tryd.underlying28 rfl hz.info ?_)|(refine wpList_load_part rfl 28 _ rfl (w.heap.size) 15 rfl 30 (r4 xr yr zr tr) (0,0) tr _ rp0 (p5_3 hx.size hy.size hz.size) Tryd.underlying28 rfl ht.info ?_)|fail)
 refine(c1.at _).mono ?_;rintro e w2 ⟨rfl,hb⟩;replace rp0:=keep hb rp0;replace rp1:=keep hb rp1;replace hw:=Below.after hw hb;clear hb
 go_wp2_with (first|(refine wpList_store_row rfl 28 _ _ rfl (w2.heap.size) x1 rfl rfl 28 #[.int .u64 0,.int .u64 0,.int .u64 0,.int .u64 0,.int .u64 0] (hp1_0 w2 _) h1.info (h1.fits rfl) h1.one ?_;rw[setRow_alloc_new _ _ _ _ _ _ (by simp)])|fail|fail)
 have rl3:(w2.alloc (.cells x1 28)).heap[w2.heap.size]? =some (.cells x1 28 (0,0)):=hp1_0 w2 _;have hb:Below w2.heap.size w2 (w2.alloc (.cells x1 28)):=((Below.refl _ _).alloc (Nat.le_refl _) _)
 generalize (w2.alloc (.cells x1 28))=wo at *
 have ygo_0:=lt_of_row rp0;have ygo_1:=lt_of_row rp1;have ygo:=hw.size;replace rp0:=keep hb rp0;replace rp1:=keep hb rp1;replace hw:=Below.after hw hb;clear hb
 generalize w2.heap.size=go at *
 clear w2
 try simp only[Act.put]
 have Hrp0:=keepr rp0;have Hrp1:=keepr rp1;have Hrl3:=keepr rl3
 refine wp_region_tail (C:=fun w'=>∃p:Regrown,w'=grow (redrawn wo p.d) p.os) 13 _ rfl rfl rfl (by kernel_rfl) (by kernel_rfl) (by kernel_rfl) (by kernel_rfl) ⟨⟨wo.drawn+1,#[]⟩,by rw[grow_empty];rfl⟩ ?_
 dsimp only[List.set,idle];go_big_quiet_step (fail);refine wpQuiet_load_part rfl 28 _ rfl (w.heap.size) 0 rfl 30 (r4 xr yr zr tr) (0,0) xr _ Hrp0.out p_0 Tryd.underlying28 rfl hx.info ?_;simp only[Act.put,ZPd,ZPe,ZPf];go_big_quiet_step (fail);refine wpQuiet_load_part rfl 28 _ rfl (w.heap.size) 5 rfl 30 (r4 xr yr zr tr) (0,0) yr _ Hrp0.out (p5_1 hx.size) Tryd.underlying28 rfl hy.info ?_;simp only[Act.put,ZPd,ZPe,ZPf];refine wpQuiet_load_row rfl 28 _ rfl (go) rfl 28 x1 (0,0) _ Hrl3.out Tryd.underlying28 rfl h1.info ?_;simp only[Act.put,ZPd,ZPe,ZPf];go_big_quiet_step (exact c3.re);go_big_quiet_step (fail);refine wpQuiet_load_part rfl 28 _ rfl (w.heap.size) 10 rfl 30 (r4 xr yr zr tr) (0,0) zr _ Hrp0.out (p5_2 hx.size hy.size) Tryd.underlying28 rfl hz.info ?_;simp only[Act.put,ZPd,ZPe,ZPf];refine wpQuiet_load_row rfl 28 _ rfl (go) rfl 28 x1 (0,0) _ Hrl3.out Tryd.underlying28 rfl h1.info ?_;simp only[Act.put,ZPd,ZPe,ZPf];go_big_quiet_step (exact c4.re);go_big_quiet_step (fail);refine wpQuiet_load_part rfl 28 _ rfl (w.heap.size) 15 rfl 30 (r4 xr yr zr tr) (0,0) tr _ Hrp0.out (p5_3 hx.size hy.size hz.size) Tryd.underlying28 rfl ht.info ?_;simp only[Act.put,ZPd,ZPe,ZPf];refine wpQuiet_build rfl 75 _ rfl [(0,.agg xr),(1,.agg x3),(2,.agg x4),(3,.agg tr)] rfl (r4 xr x3 x4 tr) (sp_built hx.size h3.size h4.size ht.size) ?_;simp only[Act.put,ZPd,ZPe,ZPf];refine wpQuiet_idle rfl rfl rfl ?_;rintro _ ⟨p,rfl⟩;have hb:=below_regrown wo p.d p.os
 generalize grow (redrawn wo p.d) p.os=w5 at *
 replace rp0:=keep hb rp0;replace rp1:=keep hb rp1;replace rl3:=keep hb rl3;replace hw:=Below.after hw hb;clear hb;clear Hrp0 Hrp1 Hrl3
 go_wp2_with (first|(refine wpList_store_row rfl 75 _ _ rfl (w.heap.size+1) (r4 xr x3 x4 tr) rfl rfl 75 _ rp1 (sp_info hx.size h3.size h4.size ht.size) ((show _=20 from rfl).trans (nums_size hx.size h3.size h4.size ht.size).symm) (r4_one hx.one h3.one h4.one ht.one) ?_)|fail)
 exact bodyPost_ret (v:=.agg (r4 xr x3 x4 tr)) (results_cell_row Tryd.results38 _ _ (w.heap.size+1) _ (r4 xr x3 x4 tr) _ _ rfl (setRow_heap _ _ _ _ _ _ rp1) Tryd.underlying75 rfl (sp_info hx.size h3.size h4.size ht.size)) rfl ⟨rfl,below_setRow hw (by omega) _⟩
set_option maxRecDepth 100000 in
set_option maxHeartbeats 8000000 in
theorem a_point {r:Array Value} {P:E1} (h:SpO r P):∃t,PtO t P∧Gives4 40 #[.agg r] (.agg t):=by
 obtain⟨xr,yr,zr,tr,X,Y,Z,T,rfl,hx,hy,hz,ht,hP⟩:=h
 obtain⟨x1,h1,c1⟩:=a_small 1 (by decide) (by decide)
 obtain⟨x3,h3,c3⟩:=a_sub hy h1;obtain⟨x4,h4,c4⟩:=a_sub hz h1
 refine⟨_,⟨xr,x3,x4,tr,_,_,_,_,rfl,hx,h3,h4,ht,(by rw[Int.sub_add_cancel,Int.sub_add_cancel];exact hP)⟩,fun w hF=>?_⟩
 have rp0:((w.alloc (.cells (r4 xr yr zr tr) 75)).alloc (.cells q20 30)).heap[w.heap.size]? =some (.cells (r4 xr yr zr tr) 75 (0,0)):=hp2_0 w _ _;have rp1:((w.alloc (.cells (r4 xr yr zr tr) 75)).alloc (.cells q20 30)).heap[w.heap.size+1]? =some (.cells q20 30 (0,0)):=hp2_1 w _ _
 have hw:Below w.heap.size w ((w.alloc (.cells (r4 xr yr zr tr) 75)).alloc (.cells q20 30)):=(((Below.refl _ _).alloc (Nat.le_refl _) _).alloc (by simp) _)
 have hz0:=hF.1;have f4:Four ((w.alloc (.cells (r4 xr yr zr tr) 75)).alloc (.cells q20 30)):=((hF.alloc _).alloc _)
 go_enter Tryd.func40,Tryd.ntmps40
 iterate 9 go_step
 generalize ((w.alloc (.cells (r4 xr yr zr tr) 75)).alloc (.cells q20 30))=w0 at *
 go_wp2_with (first|(refine wpList_load_want rfl 75 _ rfl (w.heap.size) rfl 75 (r4 xr yr zr tr) (0,0) _ rp0 Tryd.underlying75 rfl (sp_info hx.size hy.size hz.size ht.size) ?_)|(refine wpList_load_want rfl 30 _ rfl (w.heap.size+1) rfl 30 q20 (0,0) _ rp1 Tryd.underlying30 rfl (by kernel_rfl) ?_)|(refine wpList_load_part rfl 28 _ rfl (w.heap.size) 0 rfl 75 (r4 xr yr zr tr) (0,0) xr _ rp0 p_0 Tryd.underlying28 rfl hx.info ?_)|(refine wpList_load_part rfl 28 _ rfl (w.heap.size) 5 rfl 75 (r4 xr yr zr tr) (0,0) yr _ rp0 (p5_1 hx.size) Tryd.underlying28 rfl hy.info ?_)|(refine wpList_load_part rfl 28 _ rfl (w.heap.size) 10 rfl 75 (r4 xr yr zr tr) (0,0) zr _ rp0 (p5_2 hx.size hy.size) Tryd.underlying28 rfl hz.info ?_)|(refine wpList_load_part rfl 28 _ rfl (w.heap.size) 15 rfl 75 (r4 xr yr zr tr) (0,0) tr _ rp0 (p5_3 hx.size hy.size hz.size) Tryd.underlying28 rfl ht.info ?_)|fail)
 refine(c1.at _).mono ?_;rintro e w2 ⟨rfl,hb⟩;replace rp0:=keep hb rp0;replace rp1:=keep hb rp1;replace hw:=Below.after hw hb;replace f4:=f4.below hb;clear hb
 go_wp2_with (first|(refine wpList_store_row rfl 28 _ _ rfl (w2.heap.size) x1 rfl rfl 28 #[.int .u64 0,.int .u64 0,.int .u64 0,.int .u64 0,.int .u64 0] (hp1_0 w2 _) h1.info (h1.fits rfl) h1.one ?_;rw[setRow_alloc_new _ _ _ _ _ _ (by simp)])|fail|fail)
 have rl3:(w2.alloc (.cells x1 28)).heap[w2.heap.size]? =some (.cells x1 28 (0,0)):=hp1_0 w2 _;have hb:Below w2.heap.size w2 (w2.alloc (.cells x1 28)):=((Below.refl _ _).alloc (Nat.le_refl _) _)
 generalize (w2.alloc (.cells x1 28))=wo at *
 have ygo_0:=lt_of_row rp0;have ygo_1:=lt_of_row rp1;have ygo:=hw.size;have zgo:=f4.1;replace rp0:=keep hb rp0;replace rp1:=keep hb rp1;replace hw:=Below.after hw hb;replace f4:=f4.below hb;clear hb
 generalize w2.heap.size=go at *
 clear w2
 try simp only[Act.put]
 have Hrp0:=keepr rp0;have Hrp1:=keepr rp1;have Hrl3:=keepr rl3
 refine wp_region_tail (C:=fun w'=>∃p:Regrown,w'=grow (redrawn wo p.d) p.os) 13 _ rfl rfl rfl (by kernel_rfl) (by kernel_rfl) (by kernel_rfl) (by kernel_rfl) ⟨⟨wo.drawn+1,#[]⟩,by rw[grow_empty];rfl⟩ ?_
 dsimp only[List.set,idle];go_big_quiet_step (fail);refine wpQuiet_load_part rfl 28 _ rfl (w.heap.size) 0 rfl 75 (r4 xr yr zr tr) (0,0) xr _ Hrp0.out p_0 Tryd.underlying28 rfl hx.info ?_;simp only[Act.put,ZPd,ZPe,ZPf];go_big_quiet_step (fail);refine wpQuiet_load_part rfl 28 _ rfl (w.heap.size) 5 rfl 75 (r4 xr yr zr tr) (0,0) yr _ Hrp0.out (p5_1 hx.size) Tryd.underlying28 rfl hy.info ?_;simp only[Act.put,ZPd,ZPe,ZPf];refine wpQuiet_load_row rfl 28 _ rfl (go) rfl 28 x1 (0,0) _ Hrl3.out Tryd.underlying28 rfl h1.info ?_;simp only[Act.put,ZPd,ZPe,ZPf];go_big_quiet_step (exact c3.re f4);go_big_quiet_step (fail);refine wpQuiet_load_part rfl 28 _ rfl (w.heap.size) 10 rfl 75 (r4 xr yr zr tr) (0,0) zr _ Hrp0.out (p5_2 hx.size hy.size) Tryd.underlying28 rfl hz.info ?_;simp only[Act.put,ZPd,ZPe,ZPf];refine wpQuiet_load_row rfl 28 _ rfl (go) rfl 28 x1 (0,0) _ Hrl3.out Tryd.underlying28 rfl h1.info ?_;simp only[Act.put,ZPd,ZPe,ZPf];go_big_quiet_step (exact c4.re f4);go_big_quiet_step (fail);refine wpQuiet_load_part rfl 28 _ rfl (w.heap.size) 15 rfl 75 (r4 xr yr zr tr) (0,0) tr _ Hrp0.out (p5_3 hx.size hy.size hz.size) Tryd.underlying28 rfl ht.info ?_;simp only[Act.put,ZPd,ZPe,ZPf];refine wpQuiet_build rfl 30 _ rfl [(0,.agg xr),(1,.agg x3),(2,.agg x4),(3,.agg tr)] rfl (r4 xr x3 x4 tr) (pt_built hx.size h3.size h4.size ht.size) ?_;simp only[Act.put,ZPd,ZPe,ZPf];refine wpQuiet_idle rfl rfl rfl ?_;rintro _ ⟨p,rfl⟩;have hb:=below_regrown wo p.d p.os
 generalize grow (redrawn wo p.d) p.os=w5 at *
 replace rp0:=keep hb rp0;replace rp1:=keep hb rp1;replace rl3:=keep hb rl3;replace hw:=Below.after hw hb;replace f4:=f4.below hb;clear hb;clear Hrp0 Hrp1 Hrl3
 go_wp2_with (first|(refine wpList_store_row rfl 30 _ _ rfl (w.heap.size+1) (r4 xr x3 x4 tr) rfl rfl 30 _ rp1 (pt_info hx.size h3.size h4.size ht.size) ((show _=20 from rfl).trans (nums_size hx.size h3.size h4.size ht.size).symm) (r4_one hx.one h3.one h4.one ht.one) ?_)|fail)
 exact bodyPost_ret (v:=.agg (r4 xr x3 x4 tr)) (results_cell_row Tryd.results40 _ _ (w.heap.size+1) _ (r4 xr x3 x4 tr) _ _ rfl (setRow_heap _ _ _ _ _ _ rp1) Tryd.underlying30 rfl (pt_info hx.size h3.size h4.size ht.size)) rfl ⟨rfl,below_setRow hw (by omega) _⟩
set_option maxRecDepth 100000 in
set_option maxHeartbeats 8000000 in
theorem a_plus {r s:Array Value} {P Q:E1} (h:SpO r P) (g:AdO s Q):∃t,SpO t (pl P Q)∧Gives4 77 #[.agg r,.agg s] (.agg t):=by
 obtain⟨xr,yr,zr,tr,X,Y,Z,T,rfl,hx,hy,hz,ht,hP⟩:=h;obtain⟨ur,vr,wr,sr,X2,Y2,Z2,T2,rfl,hu,hv,hww,hs,hQ⟩:=g;obtain⟨x2,h2,c2⟩:=a_sub hy hx;obtain⟨x3,h3,c3⟩:=a_mul h2 hu;obtain⟨x4,h4,c4⟩:=a_add hy hx;obtain⟨x5,h5,c5⟩:=a_mul h4 hv;obtain⟨x10,h10,c10⟩:=a_mul ht hs;obtain⟨x11,h11,c11⟩:=a_mul hz hww;obtain⟨x15,h15,c15⟩:=a_sub h5 h3;obtain⟨x16,h16,c16⟩:=a_sub h11 h10;obtain⟨x17,h17,c17⟩:=a_add h5 h3;obtain⟨x18,h18,c18⟩:=a_add h11 h10;obtain⟨x19,y19,z19,t19,hx19,hy19,hz19,ht19,c19⟩:=w_shared h15 h16 h17 h18
 refine⟨_,⟨x19,y19,z19,t19,_,_,_,_,rfl,hx19,hy19,hz19,ht19,sp_plus hP hQ⟩,fun w hF=>?_⟩
 go_enter Tryd.func77,Tryd.ntmps77
 go_wp2
 have rp0:(((w.alloc (.cells (r4 xr yr zr tr) 75)).alloc (.cells (r4 ur vr wr sr) 104)).alloc (.cells q20 75)).heap[w.heap.size]? =some (.cells (r4 xr yr zr tr) 75 (0,0)):=hp3_0 w _ _ _;have rp1:(((w.alloc (.cells (r4 xr yr zr tr) 75)).alloc (.cells (r4 ur vr wr sr) 104)).alloc (.cells q20 75)).heap[w.heap.size+1]? =some (.cells (r4 ur vr wr sr) 104 (0,0)):=hp3_1 w _ _ _;have rp2:(((w.alloc (.cells (r4 xr yr zr tr) 75)).alloc (.cells (r4 ur vr wr sr) 104)).alloc (.cells q20 75)).heap[w.heap.size+1+1]? =some (.cells q20 75 (0,0)):=hp3_2 w _ _ _
 have hw:Below w.heap.size w (((w.alloc (.cells (r4 xr yr zr tr) 75)).alloc (.cells (r4 ur vr wr sr) 104)).alloc (.cells q20 75)):=((((Below.refl _ _).alloc (Nat.le_refl _) _).alloc (by simp) _).alloc (by simp;omega) _)
 have hz0:=hF.1;have f4:Four (((w.alloc (.cells (r4 xr yr zr tr) 75)).alloc (.cells (r4 ur vr wr sr) 104)).alloc (.cells q20 75)):=(((hF.alloc _).alloc _).alloc _)
 generalize (((w.alloc (.cells (r4 xr yr zr tr) 75)).alloc (.cells (r4 ur vr wr sr) 104)).alloc (.cells q20 75))=w0 at *
 refine wp_region_alloc_ex 16 18 [5,6] (fun _=>.cells #[.int .u64 0,.int .u64 0,.int .u64 0,.int .u64 0,.int .u64 0] 28 (0,0)) (by kernel_rfl) (by decide) (by decide) (by kernel_rfl) (by kernel_rfl) (by kernel_rfl) (by kernel_rfl) (by kernel_rfl) (by kernel_rfl) (by kernel_rfl) (by kernel_rfl) (by decide) (by decide) ?_ ?_
 ·intro s l u
  rcases(by omega:s=16∨s=17) with rfl|rfl<;>exact⟨_,_,rfl,rfl,rfl,rfl,fun a w=>by kernel_rfl⟩
 apply Exists.intro
 constructor
 ·intro v1 hb
  have Hrp0:=keepr (keep hb rp0)
  have Hrp1:=keepr (keep hb rp1);have Hrp2:=keepr (keep hb rp2);have F4:=f4.below hb;clear hb;dsimp only[List.take];go_big_quiet_step (fail);refine wpQuiet_load_part rfl 28 _ rfl (w.heap.size) 5 rfl 75 (r4 xr yr zr tr) (0,0) yr _ Hrp0.out (p5_1 hx.size) Tryd.underlying28 rfl hy.info ?_;simp only[Act.put,ZPd,ZPe,ZPf];go_big_quiet_step (fail);refine wpQuiet_load_part rfl 28 _ rfl (w.heap.size) 0 rfl 75 (r4 xr yr zr tr) (0,0) xr _ Hrp0.out p_0 Tryd.underlying28 rfl hx.info ?_;simp only[Act.put,ZPd,ZPe,ZPf];go_big_quiet_step (exact c2.re F4);go_big_quiet_step (fail);refine wpQuiet_load_part rfl 28 _ rfl (w.heap.size+1) 0 rfl 104 (r4 ur vr wr sr) (0,0) ur _ Hrp1.out p_0 Tryd.underlying28 rfl hu.info ?_;simp only[Act.put,ZPd,ZPe,ZPf];go_big_quiet_step (exact c3.re);go_big_quiet_step (fail);refine wpQuiet_load_part rfl 28 _ rfl (w.heap.size) 5 rfl 75 (r4 xr yr zr tr) (0,0) yr _ Hrp0.out (p5_1 hx.size) Tryd.underlying28 rfl hy.info ?_;simp only[Act.put,ZPd,ZPe,ZPf];go_big_quiet_step (fail);refine wpQuiet_load_part rfl 28 _ rfl (w.heap.size) 0 rfl 75 (r4 xr yr zr tr) (0,0) xr _ Hrp0.out p_0 Tryd.underlying28 rfl hx.info ?_;simp only[Act.put,ZPd,ZPe,ZPf];go_big_quiet_step (exact c4.re);go_big_quiet_step (fail);refine wpQuiet_load_part rfl 28 _ rfl (w.heap.size+1) 5 rfl 104 (r4 ur vr wr sr) (0,0) vr _ Hrp1.out (p5_1 hu.size) Tryd.underlying28 rfl hv.info ?_;simp only[Act.put,ZPd,ZPe,ZPf];go_big_quiet_step (exact c5.re);refine wpQuiet_nil ?_;rfl
 intro w6 g hb hg hd
 obtain⟨lg5,rg5⟩:=hg 5 (by simp)
 replace rg5:w6.heap[g 5]? =some (.cells #[.int .u64 0,.int .u64 0,.int .u64 0,.int .u64 0,.int .u64 0] 28 (0,0)):=rg5
 obtain⟨lg6,rg6⟩:=hg 6 (by simp)
 replace rg6:w6.heap[g 6]? =some (.cells #[.int .u64 0,.int .u64 0,.int .u64 0,.int .u64 0,.int .u64 0] 28 (0,0)):=rg6;simp only[List.drop,puts,ptrs,List.map,List.foldl,Act.put,List.setIfInBounds_toArray,List.set_cons_succ,List.set_cons_zero]
 have d6_5:=hd 6 (by simp) 5 (by simp) (by decide)
 clear hg hd
 generalize g 5=ga at *
 generalize g 6=gb at *
 have lrp0:=lt_of_row rp0;have lrp1:=lt_of_row rp1;have lrp2:=lt_of_row rp2;have hs:=hw.size;have hz:=f4.1;replace rp0:=keep hb rp0;replace rp1:=keep hb rp1;replace rp2:=keep hb rp2;replace hw:=Below.after hw hb;replace f4:=f4.below hb;clear hb;refine wpList_store_row rfl 28 _ _ rfl ga x3 rfl rfl 28 _ rg5 h3.info (h3.fits rfl) h3.one ?_;simp only[Act.put]
 replace rp0:=(setRow_other w6 ga (w.heap.size) x3 (by omega)).trans rp0
 replace rp1:=(setRow_other w6 ga (w.heap.size+1) x3 (by omega)).trans rp1
 replace rp2:=(setRow_other w6 ga (w.heap.size+1+1) x3 (by omega)).trans rp2
 replace rg5:=setRow_heap w6 ga _ x3 _ _ rg5
 replace rg6:=(setRow_other w6 ga gb x3 (by omega)).trans rg6
 replace hw:=below_setRow hw (show w.heap.size≤ga by omega) x3
 replace f4:=f4.setRow (show 3<ga by omega) x3
 generalize w6.setRow ga x3=w7 at *
 refine wpList_store_row rfl 28 _ _ rfl gb x5 rfl rfl 28 _ rg6 h5.info (h5.fits rfl) h5.one ?_;simp only[Act.put]
 replace rp0:=(setRow_other w7 gb (w.heap.size) x5 (by omega)).trans rp0
 replace rp1:=(setRow_other w7 gb (w.heap.size+1) x5 (by omega)).trans rp1
 replace rp2:=(setRow_other w7 gb (w.heap.size+1+1) x5 (by omega)).trans rp2
 replace rg5:=(setRow_other w7 gb ga x5 (by omega)).trans rg5
 replace rg6:=setRow_heap w7 gb _ x5 _ _ rg6
 replace hw:=below_setRow hw (show w.heap.size≤gb by omega) x5
 replace f4:=f4.setRow (show 3<gb by omega) x5
 generalize w7.setRow gb x5=w8 at *
 have yga_0:w.heap.size<ga:=by omega
 have yga_1:w.heap.size+1<ga:=by omega
 have yga_2:w.heap.size+1+1<ga:=by omega
 have yga:w.heap.size≤ga:=by omega
 have zga:3<ga:=by omega
 have ygb_0:w.heap.size<gb:=by omega
 have ygb_1:w.heap.size+1<gb:=by omega
 have ygb_2:w.heap.size+1+1<gb:=by omega
 have ygb:w.heap.size≤gb:=by omega
 have zgb:3<gb:=by omega
 clear hs hz lrp0 lrp1 lrp2 lg5 lg6
 go_wp2
 refine wp_region_alloc_ex 10 12 [7,8] (fun _=>.cells #[.int .u64 0,.int .u64 0,.int .u64 0,.int .u64 0,.int .u64 0] 28 (0,0)) (by kernel_rfl) (by decide) (by decide) (by kernel_rfl) (by kernel_rfl) (by kernel_rfl) (by kernel_rfl) (by kernel_rfl) (by kernel_rfl) (by kernel_rfl) (by kernel_rfl) (by decide) (by decide) ?_ ?_
 ·intro s l u
  rcases(by omega:s=10∨s=11) with rfl|rfl<;>exact⟨_,_,rfl,rfl,rfl,rfl,fun a w=>by kernel_rfl⟩
 apply Exists.intro
 constructor
 ·intro v9 hb
  have Hrp0:=keepr (keep hb rp0)
  have Hrp1:=keepr (keep hb rp1);have Hrp2:=keepr (keep hb rp2);have Hrg5:=keepr (keep hb rg5);have Hrg6:=keepr (keep hb rg6);have F4:=f4.below hb;clear hb;dsimp only[List.take];go_big_quiet_step (fail);refine wpQuiet_load_part rfl 28 _ rfl (w.heap.size) 15 rfl 75 (r4 xr yr zr tr) (0,0) tr _ Hrp0.out (p5_3 hx.size hy.size hz.size) Tryd.underlying28 rfl ht.info ?_;simp only[Act.put,ZPd,ZPe,ZPf];go_big_quiet_step (fail);refine wpQuiet_load_part rfl 28 _ rfl (w.heap.size+1) 15 rfl 104 (r4 ur vr wr sr) (0,0) sr _ Hrp1.out (p5_3 hu.size hv.size hww.size) Tryd.underlying28 rfl hs.info ?_;simp only[Act.put,ZPd,ZPe,ZPf];go_big_quiet_step (exact c10.re);go_big_quiet_step (fail);refine wpQuiet_load_part rfl 28 _ rfl (w.heap.size) 10 rfl 75 (r4 xr yr zr tr) (0,0) zr _ Hrp0.out (p5_2 hx.size hy.size) Tryd.underlying28 rfl hz.info ?_;simp only[Act.put,ZPd,ZPe,ZPf];go_big_quiet_step (fail);refine wpQuiet_load_part rfl 28 _ rfl (w.heap.size+1) 10 rfl 104 (r4 ur vr wr sr) (0,0) wr _ Hrp1.out (p5_2 hu.size hv.size) Tryd.underlying28 rfl hww.info ?_;simp only[Act.put,ZPd,ZPe,ZPf];go_big_quiet_step (exact c11.re);refine wpQuiet_nil ?_;rfl
 intro w12 g hb hg hd
 obtain⟨lg7,rg7⟩:=hg 7 (by simp)
 replace rg7:w12.heap[g 7]? =some (.cells #[.int .u64 0,.int .u64 0,.int .u64 0,.int .u64 0,.int .u64 0] 28 (0,0)):=rg7
 obtain⟨lg8,rg8⟩:=hg 8 (by simp)
 replace rg8:w12.heap[g 8]? =some (.cells #[.int .u64 0,.int .u64 0,.int .u64 0,.int .u64 0,.int .u64 0] 28 (0,0)):=rg8;simp only[List.drop,puts,ptrs,List.map,List.foldl,Act.put,List.setIfInBounds_toArray,List.set_cons_succ,List.set_cons_zero]
 have d8_7:=hd 8 (by simp) 7 (by simp) (by decide)
 clear hg hd
 generalize g 7=gc at *
 generalize g 8=gd at *
 have lrp0:=lt_of_row rp0;have lrp1:=lt_of_row rp1;have lrp2:=lt_of_row rp2;have lrg5:=lt_of_row rg5;have lrg6:=lt_of_row rg6;have hs:=hw.size;have hz:=f4.1;replace rp0:=keep hb rp0;replace rp1:=keep hb rp1;replace rp2:=keep hb rp2;replace rg5:=keep hb rg5;replace rg6:=keep hb rg6;replace hw:=Below.after hw hb;replace f4:=f4.below hb;clear hb;refine wpList_store_row rfl 28 _ _ rfl gc x10 rfl rfl 28 _ rg7 h10.info (h10.fits rfl) h10.one ?_;simp only[Act.put]
 replace rp0:=(setRow_other w12 gc (w.heap.size) x10 (by omega)).trans rp0
 replace rp1:=(setRow_other w12 gc (w.heap.size+1) x10 (by omega)).trans rp1
 replace rp2:=(setRow_other w12 gc (w.heap.size+1+1) x10 (by omega)).trans rp2
 replace rg5:=(setRow_other w12 gc (ga) x10 (by omega)).trans rg5
 replace rg6:=(setRow_other w12 gc (gb) x10 (by omega)).trans rg6
 replace rg7:=setRow_heap w12 gc _ x10 _ _ rg7
 replace rg8:=(setRow_other w12 gc gd x10 (by omega)).trans rg8
 replace hw:=below_setRow hw (show w.heap.size≤gc by omega) x10
 replace f4:=f4.setRow (show 3<gc by omega) x10
 generalize w12.setRow gc x10=w13 at *
 refine wpList_store_row rfl 28 _ _ rfl gd x11 rfl rfl 28 _ rg8 h11.info (h11.fits rfl) h11.one ?_;simp only[Act.put]
 replace rp0:=(setRow_other w13 gd (w.heap.size) x11 (by omega)).trans rp0
 replace rp1:=(setRow_other w13 gd (w.heap.size+1) x11 (by omega)).trans rp1
 replace rp2:=(setRow_other w13 gd (w.heap.size+1+1) x11 (by omega)).trans rp2
 replace rg5:=(setRow_other w13 gd (ga) x11 (by omega)).trans rg5
 replace rg6:=(setRow_other w13 gd (gb) x11 (by omega)).trans rg6
 replace rg7:=(setRow_other w13 gd gc x11 (by omega)).trans rg7
 replace rg8:=setRow_heap w13 gd _ x11 _ _ rg8
 replace hw:=below_setRow hw (show w.heap.size≤gd by omega) x11
 replace f4:=f4.setRow (show 3<gd by omega) x11
 generalize w13.setRow gd x11=w14 at *
 have ygc_0:w.heap.size<gc:=by omega
 have ygc_1:w.heap.size+1<gc:=by omega
 have ygc_2:w.heap.size+1+1<gc:=by omega
 have ygc_3:ga<gc:=by omega
 have ygc_4:gb<gc:=by omega
 have ygc:w.heap.size≤gc:=by omega
 have zgc:3<gc:=by omega
 have ygd_0:w.heap.size<gd:=by omega
 have ygd_1:w.heap.size+1<gd:=by omega
 have ygd_2:w.heap.size+1+1<gd:=by omega
 have ygd_3:ga<gd:=by omega
 have ygd_4:gb<gd:=by omega
 have ygd:w.heap.size≤gd:=by omega
 have zgd:3<gd:=by omega
 clear hs hz lrp0 lrp1 lrp2 lrg5 lrg6 lg7 lg8
 go_wp2
 have Hrp0:=keepr rp0;have Hrp1:=keepr rp1;have Hrp2:=keepr rp2;have Hrg5:=keepr rg5;have Hrg6:=keepr rg6;have Hrg7:=keepr rg7;have Hrg8:=keepr rg8
 refine wp_region_tail (C:=fun w'=>∃p:Regrown,w'=grow (redrawn w14 p.d) p.os) 13 _ rfl rfl rfl (by kernel_rfl) (by kernel_rfl) (by kernel_rfl) (by kernel_rfl) ⟨⟨w14.drawn+1,#[]⟩,by rw[grow_empty];rfl⟩ ?_
 dsimp only[List.set,idle];refine wpQuiet_load_row rfl 28 _ rfl (gb) rfl 28 x5 (0,0) _ Hrg6.out Tryd.underlying28 rfl h5.info ?_;simp only[Act.put,ZPd,ZPe,ZPf];refine wpQuiet_load_row rfl 28 _ rfl (ga) rfl 28 x3 (0,0) _ Hrg5.out Tryd.underlying28 rfl h3.info ?_;simp only[Act.put,ZPd,ZPe,ZPf];go_big_quiet_step (exact c15.re f4);refine wpQuiet_load_row rfl 28 _ rfl (gd) rfl 28 x11 (0,0) _ Hrg8.out Tryd.underlying28 rfl h11.info ?_;simp only[Act.put,ZPd,ZPe,ZPf];refine wpQuiet_load_row rfl 28 _ rfl (gc) rfl 28 x10 (0,0) _ Hrg7.out Tryd.underlying28 rfl h10.info ?_;simp only[Act.put,ZPd,ZPe,ZPf];go_big_quiet_step (exact c16.re f4);refine wpQuiet_load_row rfl 28 _ rfl (gb) rfl 28 x5 (0,0) _ Hrg6.out Tryd.underlying28 rfl h5.info ?_;simp only[Act.put,ZPd,ZPe,ZPf];refine wpQuiet_load_row rfl 28 _ rfl (ga) rfl 28 x3 (0,0) _ Hrg5.out Tryd.underlying28 rfl h3.info ?_;simp only[Act.put,ZPd,ZPe,ZPf];go_big_quiet_step (exact c17.re);refine wpQuiet_load_row rfl 28 _ rfl (gd) rfl 28 x11 (0,0) _ Hrg8.out Tryd.underlying28 rfl h11.info ?_;simp only[Act.put,ZPd,ZPe,ZPf];refine wpQuiet_load_row rfl 28 _ rfl (gc) rfl 28 x10 (0,0) _ Hrg7.out Tryd.underlying28 rfl h10.info ?_;simp only[Act.put,ZPd,ZPe,ZPf];go_big_quiet_step (exact c18.re);go_big_quiet_step (exact c19.re);refine wpQuiet_idle rfl rfl rfl ?_;rintro _ ⟨p,rfl⟩;have hb:=below_regrown w14 p.d p.os
 generalize grow (redrawn w14 p.d) p.os=w20 at *
 replace rp0:=keep hb rp0;replace rp1:=keep hb rp1;replace rp2:=keep hb rp2;replace rg5:=keep hb rg5;replace rg6:=keep hb rg6;replace rg7:=keep hb rg7;replace rg8:=keep hb rg8;replace hw:=Below.after hw hb;replace f4:=f4.below hb;clear hb;clear Hrp0 Hrp1 Hrp2 Hrg5 Hrg6 Hrg7 Hrg8
 go_wp2_with (first|(refine wpList_store_row rfl 75 _ _ rfl (w.heap.size+1+1) (r4 x19 y19 z19 t19) rfl rfl 75 _ rp2 (sp_info hx19.size hy19.size hz19.size ht19.size) ((show _=20 from rfl).trans (nums_size hx19.size hy19.size hz19.size ht19.size).symm) (r4_one hx19.one hy19.one hz19.one ht19.one) ?_)|fail)
 exact bodyPost_ret (v:=.agg (r4 x19 y19 z19 t19)) (results_cell_row Tryd.results77 _ _ (w.heap.size+1+1) _ (r4 x19 y19 z19 t19) _ _ rfl (setRow_heap _ _ _ _ _ _ rp2) Tryd.underlying75 rfl (sp_info hx19.size hy19.size hz19.size ht19.size)) rfl ⟨rfl,below_setRow hw (by omega) _⟩
set_option maxRecDepth 100000 in
set_option maxHeartbeats 8000000 in
theorem a_twice {r:Array Value} {P:E1} (h:SpO r P):∃t,SpO t (pl P P)∧Gives4 75 #[.agg r] (.agg t):=by
 obtain⟨xr,yr,zr,tr,X,Y,Z,T,rfl,hx,hy,hz,ht,hP⟩:=h;obtain⟨x2,h2,c2⟩:=a_square hx;obtain⟨x3,h3,c3⟩:=a_square hy;obtain⟨x8,h8,c8⟩:=a_add h3 h2;obtain⟨x9,h9,c9⟩:=a_sub h3 h2;obtain⟨x13,h13,c13⟩:=a_add hx hy;obtain⟨x14,h14,c14⟩:=a_square h13;obtain⟨x15,h15,c15⟩:=a_sub h14 h8;obtain⟨x16,h16,c16⟩:=a_square hz
 obtain⟨x17,h17,c17⟩:=a_times h16 2 (by decide) (by decide)
 obtain⟨x18,h18,c18⟩:=a_sub h17 h9;obtain⟨x19,y19,z19,t19,hx19,hy19,hz19,ht19,c19⟩:=w_shared h15 h9 h8 h18
 refine⟨_,⟨x19,y19,z19,t19,_,_,_,_,rfl,hx19,hy19,hz19,ht19,sp_twice hP⟩,fun w hF=>?_⟩
 go_enter Tryd.func75,Tryd.ntmps75
 go_wp2
 have rp0:((w.alloc (.cells (r4 xr yr zr tr) 75)).alloc (.cells q20 75)).heap[w.heap.size]? =some (.cells (r4 xr yr zr tr) 75 (0,0)):=hp2_0 w _ _;have rp1:((w.alloc (.cells (r4 xr yr zr tr) 75)).alloc (.cells q20 75)).heap[w.heap.size+1]? =some (.cells q20 75 (0,0)):=hp2_1 w _ _
 have hw:Below w.heap.size w ((w.alloc (.cells (r4 xr yr zr tr) 75)).alloc (.cells q20 75)):=(((Below.refl _ _).alloc (Nat.le_refl _) _).alloc (by simp) _)
 have hz0:=hF.1;have f4:Four ((w.alloc (.cells (r4 xr yr zr tr) 75)).alloc (.cells q20 75)):=((hF.alloc _).alloc _)
 generalize ((w.alloc (.cells (r4 xr yr zr tr) 75)).alloc (.cells q20 75))=w0 at *
 refine wp_region_alloc_ex 6 8 [3,4] (fun _=>.cells #[.int .u64 0,.int .u64 0,.int .u64 0,.int .u64 0,.int .u64 0] 28 (0,0)) (by kernel_rfl) (by decide) (by decide) (by kernel_rfl) (by kernel_rfl) (by kernel_rfl) (by kernel_rfl) (by kernel_rfl) (by kernel_rfl) (by kernel_rfl) (by kernel_rfl) (by decide) (by decide) ?_ ?_
 ·intro s l u
  rcases(by omega:s=6∨s=7) with rfl|rfl<;>exact⟨_,_,rfl,rfl,rfl,rfl,fun a w=>by kernel_rfl⟩
 apply Exists.intro
 constructor
 ·intro v1 hb
  have Hrp0:=keepr (keep hb rp0)
  have Hrp1:=keepr (keep hb rp1);have F4:=f4.below hb;clear hb;dsimp only[List.take];go_big_quiet_step (fail);refine wpQuiet_load_part rfl 28 _ rfl (w.heap.size) 0 rfl 75 (r4 xr yr zr tr) (0,0) xr _ Hrp0.out p_0 Tryd.underlying28 rfl hx.info ?_;simp only[Act.put,ZPd,ZPe,ZPf];go_big_quiet_step (exact c2.re);go_big_quiet_step (fail);refine wpQuiet_load_part rfl 28 _ rfl (w.heap.size) 5 rfl 75 (r4 xr yr zr tr) (0,0) yr _ Hrp0.out (p5_1 hx.size) Tryd.underlying28 rfl hy.info ?_;simp only[Act.put,ZPd,ZPe,ZPf];go_big_quiet_step (exact c3.re);refine wpQuiet_nil ?_;rfl
 intro w4 g hb hg hd
 obtain⟨lg3,rg3⟩:=hg 3 (by simp)
 replace rg3:w4.heap[g 3]? =some (.cells #[.int .u64 0,.int .u64 0,.int .u64 0,.int .u64 0,.int .u64 0] 28 (0,0)):=rg3
 obtain⟨lg4,rg4⟩:=hg 4 (by simp)
 replace rg4:w4.heap[g 4]? =some (.cells #[.int .u64 0,.int .u64 0,.int .u64 0,.int .u64 0,.int .u64 0] 28 (0,0)):=rg4;simp only[List.drop,puts,ptrs,List.map,List.foldl,Act.put,List.setIfInBounds_toArray,List.set_cons_succ,List.set_cons_zero]
 have d4_3:=hd 4 (by simp) 3 (by simp) (by decide)
 clear hg hd
 generalize g 3=ga at *
 generalize g 4=gb at *
 have lrp0:=lt_of_row rp0;have lrp1:=lt_of_row rp1;have hs:=hw.size;have hz:=f4.1;replace rp0:=keep hb rp0;replace rp1:=keep hb rp1;replace hw:=Below.after hw hb;replace f4:=f4.below hb;clear hb;refine wpList_store_row rfl 28 _ _ rfl ga x2 rfl rfl 28 _ rg3 h2.info (h2.fits rfl) h2.one ?_;simp only[Act.put]
 replace rp0:=(setRow_other w4 ga (w.heap.size) x2 (by omega)).trans rp0
 replace rp1:=(setRow_other w4 ga (w.heap.size+1) x2 (by omega)).trans rp1
 replace rg3:=setRow_heap w4 ga _ x2 _ _ rg3
 replace rg4:=(setRow_other w4 ga gb x2 (by omega)).trans rg4
 replace hw:=below_setRow hw (show w.heap.size≤ga by omega) x2
 replace f4:=f4.setRow (show 3<ga by omega) x2
 generalize w4.setRow ga x2=w5 at *
 refine wpList_store_row rfl 28 _ _ rfl gb x3 rfl rfl 28 _ rg4 h3.info (h3.fits rfl) h3.one ?_;simp only[Act.put]
 replace rp0:=(setRow_other w5 gb (w.heap.size) x3 (by omega)).trans rp0
 replace rp1:=(setRow_other w5 gb (w.heap.size+1) x3 (by omega)).trans rp1
 replace rg3:=(setRow_other w5 gb ga x3 (by omega)).trans rg3
 replace rg4:=setRow_heap w5 gb _ x3 _ _ rg4
 replace hw:=below_setRow hw (show w.heap.size≤gb by omega) x3
 replace f4:=f4.setRow (show 3<gb by omega) x3
 generalize w5.setRow gb x3=w6 at *
 have yga_0:w.heap.size<ga:=by omega
 have yga_1:w.heap.size+1<ga:=by omega
 have yga:w.heap.size≤ga:=by omega
 have zga:3<ga:=by omega
 have ygb_0:w.heap.size<gb:=by omega
 have ygb_1:w.heap.size+1<gb:=by omega
 have ygb:w.heap.size≤gb:=by omega
 have zgb:3<gb:=by omega
 clear hs hz lrp0 lrp1 lg3 lg4
 go_wp2
 refine wp_region_alloc_ex 6 8 [5,6] (fun _=>.cells #[.int .u64 0,.int .u64 0,.int .u64 0,.int .u64 0,.int .u64 0] 28 (0,0)) (by kernel_rfl) (by decide) (by decide) (by kernel_rfl) (by kernel_rfl) (by kernel_rfl) (by kernel_rfl) (by kernel_rfl) (by kernel_rfl) (by kernel_rfl) (by kernel_rfl) (by decide) (by decide) ?_ ?_
 ·intro s l u
  rcases(by omega:s=6∨s=7) with rfl|rfl<;>exact⟨_,_,rfl,rfl,rfl,rfl,fun a w=>by kernel_rfl⟩
 apply Exists.intro
 constructor
 ·intro v7 hb
  have Hrp0:=keepr (keep hb rp0)
  have Hrp1:=keepr (keep hb rp1);have Hrg3:=keepr (keep hb rg3);have Hrg4:=keepr (keep hb rg4);have F4:=f4.below hb;clear hb;dsimp only[List.take];refine wpQuiet_load_row rfl 28 _ rfl (gb) rfl 28 x3 (0,0) _ Hrg4.out Tryd.underlying28 rfl h3.info ?_;simp only[Act.put,ZPd,ZPe,ZPf];refine wpQuiet_load_row rfl 28 _ rfl (ga) rfl 28 x2 (0,0) _ Hrg3.out Tryd.underlying28 rfl h2.info ?_;simp only[Act.put,ZPd,ZPe,ZPf];go_big_quiet_step (exact c8.re);refine wpQuiet_load_row rfl 28 _ rfl (gb) rfl 28 x3 (0,0) _ Hrg4.out Tryd.underlying28 rfl h3.info ?_;simp only[Act.put,ZPd,ZPe,ZPf];refine wpQuiet_load_row rfl 28 _ rfl (ga) rfl 28 x2 (0,0) _ Hrg3.out Tryd.underlying28 rfl h2.info ?_;simp only[Act.put,ZPd,ZPe,ZPf];go_big_quiet_step (exact c9.re F4);refine wpQuiet_nil ?_;rfl
 intro w10 g hb hg hd
 obtain⟨lg5,rg5⟩:=hg 5 (by simp)
 replace rg5:w10.heap[g 5]? =some (.cells #[.int .u64 0,.int .u64 0,.int .u64 0,.int .u64 0,.int .u64 0] 28 (0,0)):=rg5
 obtain⟨lg6,rg6⟩:=hg 6 (by simp)
 replace rg6:w10.heap[g 6]? =some (.cells #[.int .u64 0,.int .u64 0,.int .u64 0,.int .u64 0,.int .u64 0] 28 (0,0)):=rg6;simp only[List.drop,puts,ptrs,List.map,List.foldl,Act.put,List.setIfInBounds_toArray,List.set_cons_succ,List.set_cons_zero]
 have d6_5:=hd 6 (by simp) 5 (by simp) (by decide)
 clear hg hd
 generalize g 5=gc at *
 generalize g 6=gd at *
 have lrp0:=lt_of_row rp0;have lrp1:=lt_of_row rp1;have lrg3:=lt_of_row rg3;have lrg4:=lt_of_row rg4;have hs:=hw.size;have hz:=f4.1;replace rp0:=keep hb rp0;replace rp1:=keep hb rp1;replace rg3:=keep hb rg3;replace rg4:=keep hb rg4;replace hw:=Below.after hw hb;replace f4:=f4.below hb;clear hb;refine wpList_store_row rfl 28 _ _ rfl gc x8 rfl rfl 28 _ rg5 h8.info (h8.fits rfl) h8.one ?_;simp only[Act.put]
 replace rp0:=(setRow_other w10 gc (w.heap.size) x8 (by omega)).trans rp0
 replace rp1:=(setRow_other w10 gc (w.heap.size+1) x8 (by omega)).trans rp1
 replace rg3:=(setRow_other w10 gc (ga) x8 (by omega)).trans rg3
 replace rg4:=(setRow_other w10 gc (gb) x8 (by omega)).trans rg4
 replace rg5:=setRow_heap w10 gc _ x8 _ _ rg5
 replace rg6:=(setRow_other w10 gc gd x8 (by omega)).trans rg6
 replace hw:=below_setRow hw (show w.heap.size≤gc by omega) x8
 replace f4:=f4.setRow (show 3<gc by omega) x8
 generalize w10.setRow gc x8=w11 at *
 refine wpList_store_row rfl 28 _ _ rfl gd x9 rfl rfl 28 _ rg6 h9.info (h9.fits rfl) h9.one ?_;simp only[Act.put]
 replace rp0:=(setRow_other w11 gd (w.heap.size) x9 (by omega)).trans rp0
 replace rp1:=(setRow_other w11 gd (w.heap.size+1) x9 (by omega)).trans rp1
 replace rg3:=(setRow_other w11 gd (ga) x9 (by omega)).trans rg3
 replace rg4:=(setRow_other w11 gd (gb) x9 (by omega)).trans rg4
 replace rg5:=(setRow_other w11 gd gc x9 (by omega)).trans rg5
 replace rg6:=setRow_heap w11 gd _ x9 _ _ rg6
 replace hw:=below_setRow hw (show w.heap.size≤gd by omega) x9
 replace f4:=f4.setRow (show 3<gd by omega) x9
 generalize w11.setRow gd x9=w12 at *
 have ygc_0:w.heap.size<gc:=by omega
 have ygc_1:w.heap.size+1<gc:=by omega
 have ygc_2:ga<gc:=by omega
 have ygc_3:gb<gc:=by omega
 have ygc:w.heap.size≤gc:=by omega
 have zgc:3<gc:=by omega
 have ygd_0:w.heap.size<gd:=by omega
 have ygd_1:w.heap.size+1<gd:=by omega
 have ygd_2:ga<gd:=by omega
 have ygd_3:gb<gd:=by omega
 have ygd:w.heap.size≤gd:=by omega
 have zgd:3<gd:=by omega
 clear hs hz lrp0 lrp1 lrg3 lrg4 lg5 lg6
 go_wp2
 have Hrp0:=keepr rp0;have Hrp1:=keepr rp1;have Hrg3:=keepr rg3;have Hrg4:=keepr rg4;have Hrg5:=keepr rg5;have Hrg6:=keepr rg6
 refine wp_region_tail (C:=fun w'=>∃p:Regrown,w'=grow (redrawn w12 p.d) p.os) 17 _ rfl rfl rfl (by kernel_rfl) (by kernel_rfl) (by kernel_rfl) (by kernel_rfl) ⟨⟨w12.drawn+1,#[]⟩,by rw[grow_empty];rfl⟩ ?_
 dsimp only[List.set,idle];go_big_quiet_step (fail);refine wpQuiet_load_part rfl 28 _ rfl (w.heap.size) 0 rfl 75 (r4 xr yr zr tr) (0,0) xr _ Hrp0.out p_0 Tryd.underlying28 rfl hx.info ?_;simp only[Act.put,ZPd,ZPe,ZPf];go_big_quiet_step (fail);refine wpQuiet_load_part rfl 28 _ rfl (w.heap.size) 5 rfl 75 (r4 xr yr zr tr) (0,0) yr _ Hrp0.out (p5_1 hx.size) Tryd.underlying28 rfl hy.info ?_;simp only[Act.put,ZPd,ZPe,ZPf];go_big_quiet_step (exact c13.re);go_big_quiet_step (exact c14.re);refine wpQuiet_load_row rfl 28 _ rfl (gc) rfl 28 x8 (0,0) _ Hrg5.out Tryd.underlying28 rfl h8.info ?_;simp only[Act.put,ZPd,ZPe,ZPf];go_big_quiet_step (exact c15.re f4);refine wpQuiet_load_row rfl 28 _ rfl (gd) rfl 28 x9 (0,0) _ Hrg6.out Tryd.underlying28 rfl h9.info ?_;simp only[Act.put,ZPd,ZPe,ZPf];refine wpQuiet_load_row rfl 28 _ rfl (gc) rfl 28 x8 (0,0) _ Hrg5.out Tryd.underlying28 rfl h8.info ?_;simp only[Act.put,ZPd,ZPe,ZPf];go_big_quiet_step (fail);refine wpQuiet_load_part rfl 28 _ rfl (w.heap.size) 10 rfl 75 (r4 xr yr zr tr) (0,0) zr _ Hrp0.out (p5_2 hx.size hy.size) Tryd.underlying28 rfl hz.info ?_;simp only[Act.put,ZPd,ZPe,ZPf];go_big_quiet_step (exact c16.re);go_big_quiet_step (exact c17.re);refine wpQuiet_load_row rfl 28 _ rfl (gd) rfl 28 x9 (0,0) _ Hrg6.out Tryd.underlying28 rfl h9.info ?_;simp only[Act.put,ZPd,ZPe,ZPf];go_big_quiet_step (exact c18.re f4);go_big_quiet_step (exact c19.re);refine wpQuiet_idle rfl rfl rfl ?_;rintro _ ⟨p,rfl⟩;have hb:=below_regrown w12 p.d p.os
 generalize grow (redrawn w12 p.d) p.os=w20 at *
 replace rp0:=keep hb rp0;replace rp1:=keep hb rp1;replace rg3:=keep hb rg3;replace rg4:=keep hb rg4;replace rg5:=keep hb rg5;replace rg6:=keep hb rg6;replace hw:=Below.after hw hb;replace f4:=f4.below hb;clear hb;clear Hrp0 Hrp1 Hrg3 Hrg4 Hrg5 Hrg6
 go_wp2_with (first|(refine wpList_store_row rfl 75 _ _ rfl (w.heap.size+1) (r4 x19 y19 z19 t19) rfl rfl 75 _ rp1 (sp_info hx19.size hy19.size hz19.size ht19.size) ((show _=20 from rfl).trans (nums_size hx19.size hy19.size hz19.size ht19.size).symm) (r4_one hx19.one hy19.one hz19.one ht19.one) ?_)|fail)
 exact bodyPost_ret (v:=.agg (r4 x19 y19 z19 t19)) (results_cell_row Tryd.results75 _ _ (w.heap.size+1) _ (r4 x19 y19 z19 t19) _ _ rfl (setRow_heap _ _ _ _ _ _ rp1) Tryd.underlying75 rfl (sp_info hx19.size hy19.size hz19.size ht19.size)) rfl ⟨rfl,below_setRow hw (by omega) _⟩
end Go.Proofs.YtdcpcdkbhgkmlaaDoor
