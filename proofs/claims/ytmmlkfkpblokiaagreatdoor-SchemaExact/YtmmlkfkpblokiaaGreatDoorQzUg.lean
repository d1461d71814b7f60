import Derived.Test.YtmmlkfkpblokiaaGreatDoorQzUc
set_option maxRecDepth 100000
set_option maxHeartbeats 16000000
namespace Go.Proofs.YtmmlkfkpblokiaaGreatDoor
open Go Go.RowKit Go.Sort
attribute [local go_sem] setCell_drewN alloc_drewN
theorem s_headOf (n:Nat) (hn:n≤536870911):Gives 69 #[.int .i64 (n:Int)] (.int .u64 ((8*n:Nat):Int)):=by
 intro w
 have e:((8*n:Nat):Int)=8*(n:Int):=by omega
 rw[e];clear e
 go_enter Tryz.func69,Tryz.ntmps69
 go_wp2_with (fail)
 go_ret;exact⟨rfl,Below.refl _ _⟩
theorem a_sizeOf (n:Nat) (hn:n<18446744073709551616):Gives 68 #[.int .u64 (n:Int)] (.int .u64 ((en n).length:Int)):=by
 intro w;have cS:=a_size n hn w;have hel:=en_ten hn
 generalize (en n).length=m at *
 go_enter Tryz.func68,Tryz.ntmps68
 go_wp2_with (fail)
 refine cS.mono ?_;rintro e_ w1 ⟨rfl,hb⟩
 go_wp2_with (fail)
 go_ret;exact⟨rfl,hb⟩
theorem a_counted (n:Nat) (hn:n<4611686018427387904):Gives 163 #[.int .u64 (n:Int)] (.int .u64 (((en n).length+n:Nat):Int)):=by
 intro w
 have cS:=a_sizeOf n (by omega) w
 have hel:=en_ten (n:=n) (by omega)
 generalize (en n).length=m at *
 have e:((m+n:Nat):Int)=(m:Int)+(n:Int):=by omega
 rw[e];clear e
 go_enter Tryz.func163,Tryz.ntmps163
 go_wp2_with (fail)
 refine cS.mono ?_;rintro e_ w1 ⟨rfl,hb⟩
 go_wp2_with (fail)
 go_ret;exact⟨rfl,hb⟩
def ctd (n:Nat):Nat:=(en n).length+n
theorem bNum (cs:Array Value) (W:World):(Instr.box 177 (.agg cs)).run Tryz.prog W=.ok (.pointer (some ⟨W.heap.size,0,none⟩)) (W.alloc (.cells cs 177)):=by kernel_rfl
theorem bOct (cs:Array Value) (W:World):(Instr.box 186 (.agg cs)).run Tryz.prog W=.ok (.pointer (some ⟨W.heap.size,0,none⟩)) (W.alloc (.cells cs 186)):=by kernel_rfl
theorem bFlt (cs:Array Value) (W:World):(Instr.box 183 (.agg cs)).run Tryz.prog W=.ok (.pointer (some ⟨W.heap.size,0,none⟩)) (W.alloc (.cells cs 183)):=by kernel_rfl
def nsz (ty:Int) (l m:Nat):Nat×Nat:=if ty=5 then(4,4) else if ty=1 then(8,8) else((en l).length,(en m).length)
theorem a_numSize (ty:Int) (l m:Nat) (hl:l<18446744073709551616) (hm:m<18446744073709551616):Gives 178 #[.agg #[.int .i64 ty,.int .u64 (l:Int),.int .u64 (m:Int)]] (.tuple #[.int .u64 ((nsz ty l m).1:Int),.int .u64 ((nsz ty l m).2:Int)]):=by
 intro w;have R0:=hp1_0 w (.cells #[.int .i64 ty,.int .u64 (l:Int),.int .u64 (m:Int)] 177);have hw:Below w.heap.size w (w.alloc (.cells #[.int .i64 ty,.int .u64 (l:Int),.int .u64 (m:Int)] 177)):=(Below.refl _ _).alloc (Nat.le_refl _) _;have c0:(w.alloc (.cells #[.int .i64 ty,.int .u64 (l:Int),.int .u64 (m:Int)] 177)).cell? ⟨w.heap.size,0,none⟩=some (.int .i64 ty):=cell_of_row _ _ _ _ _ _ R0;have c1:(w.alloc (.cells #[.int .i64 ty,.int .u64 (l:Int),.int .u64 (m:Int)] 177)).cell? ⟨w.heap.size,1,none⟩=some (.int .u64 (l:Int)):=cell_of_row _ _ _ _ _ _ R0;have c2:(w.alloc (.cells #[.int .i64 ty,.int .u64 (l:Int),.int .u64 (m:Int)] 177)).cell? ⟨w.heap.size,2,none⟩=some (.int .u64 (m:Int)):=cell_of_row _ _ _ _ _ _ R0;clear R0
 by_cases h5:ty=5
 ·subst h5
  go_enter Tryz.func178,Tryz.ntmps178
  go_wp2_with (first|(refine wpList_box rfl 177 _ rfl _ rfl (bNum _) ?_)|fail)
  go_ret2;exact⟨rfl,hw⟩
 by_cases h1:ty=1
 ·subst h1
  go_enter Tryz.func178,Tryz.ntmps178
  go_wp2_with (first|(refine wpList_box rfl 177 _ rfl _ rfl (bNum _) ?_)|fail)
  go_ret2;exact⟨rfl,hw⟩
 have q5:(ty==5)=false:=by simpa using h5
 have q1:(ty==1)=false:=by simpa using h1
 have hz:nsz ty l m=((en l).length,(en m).length):=by unfold nsz;rw[if_neg h5,if_neg h1]
 rw[hz];have e1:=en_ten hl;have e2:=en_ten hm
 have s1:∀V,GivesB V 68 #[.int .u64 (l:Int)] (.int .u64 ((en l).length:Int)):=fun _ V _=>a_sizeOf l hl V
 have s2:∀V,GivesB V 68 #[.int .u64 (m:Int)] (.int .u64 ((en m).length:Int)):=fun _ V _=>a_sizeOf m hm V
 simp only
 generalize (en l).length=A at *
 generalize (en m).length=Bm at *
 clear hz h1 h5
 go_enter Tryz.func178,Tryz.ntmps178
 go_wp2_with (first|(refine wpList_box rfl 177 _ rfl _ rfl (bNum _) ?_)|fail)
 generalize hW:(w.alloc (.cells #[.int .i64 ty,.int .u64 (l:Int),.int .u64 (m:Int)] 177))=w1 at *
 replace hW:=hide hW
 have k1:∀p:Regrown,(grow (redrawn w1 p.d) p.os).cell? ⟨w.heap.size,1,none⟩=some (.int .u64 (l:Int)):=fun p=>cell_regrown c1 p.d p.os
 have k2:∀p:Regrown,(grow (redrawn w1 p.d) p.os).cell? ⟨w.heap.size,2,none⟩=some (.int .u64 (m:Int)):=fun p=>cell_regrown c2 p.d p.os
 refine wp_region_quiet_below (by kernel_rfl) (by kernel_rfl) ?_
 go_big_quiet_step (fail);go_big_quiet_step (fail);go_big_quiet_step (exact(s1 w1).re);go_big_quiet_step (fail);go_big_quiet_step (fail);go_big_quiet_step (exact(s2 w1).re);go_big_quiet_step (fail);go_big_quiet_step (fail);refine wpQuiet_nil ?_;rintro _ ⟨p,rfl⟩;have hb2:=below_regrown w1 p.d p.os
 generalize grow (redrawn w1 p.d) p.os=w2 at *
 replace hw:=Below.after hw hb2;clear hb2 k1 k2 s1 s2
 go_wp2_with (fail)
 go_ret2;exact⟨rfl,hw⟩
theorem a_octSize (l m:Nat) (t:Bool) (hl:l<4611686018427387904) (hm:m<4611686018427387904):Gives 180 #[.agg #[.int .u64 (l:Int),.int .u64 (m:Int),.bool t]] (.tuple #[.int .u64 (ctd l:Int),.int .u64 (ctd m:Int)]):=by
 intro w;have R0:=hp1_0 w (.cells #[.int .u64 (l:Int),.int .u64 (m:Int),.bool t] 186);have hw:Below w.heap.size w (w.alloc (.cells #[.int .u64 (l:Int),.int .u64 (m:Int),.bool t] 186)):=(Below.refl _ _).alloc (Nat.le_refl _) _;have c0:(w.alloc (.cells #[.int .u64 (l:Int),.int .u64 (m:Int),.bool t] 186)).cell? ⟨w.heap.size,0,none⟩=some (.int .u64 (l:Int)):=cell_of_row _ _ _ _ _ _ R0;have c1:(w.alloc (.cells #[.int .u64 (l:Int),.int .u64 (m:Int),.bool t] 186)).cell? ⟨w.heap.size,1,none⟩=some (.int .u64 (m:Int)):=cell_of_row _ _ _ _ _ _ R0;have c2:(w.alloc (.cells #[.int .u64 (l:Int),.int .u64 (m:Int),.bool t] 186)).cell? ⟨w.heap.size,2,none⟩=some (.bool t):=cell_of_row _ _ _ _ _ _ R0;clear R0
 have s1:∀V,GivesB V 163 #[.int .u64 (l:Int)] (.int .u64 (ctd l:Int)):=fun _ V _=>a_counted l hl V
 have s2:∀V,GivesB V 163 #[.int .u64 (m:Int)] (.int .u64 (ctd m:Int)):=fun _ V _=>a_counted m hm V
 generalize ctd l=A at *
 generalize ctd m=Bm at *
 go_enter Tryz.func180,Tryz.ntmps180
 go_wp2_with (first|(refine wpList_box rfl 186 _ rfl _ rfl (bOct _) ?_)|fail)
 generalize hW:(w.alloc (.cells #[.int .u64 (l:Int),.int .u64 (m:Int),.bool t] 186))=w1 at *
 replace hW:=hide hW
 have k0:∀p:Regrown,(grow (redrawn w1 p.d) p.os).cell? ⟨w.heap.size,0,none⟩=some (.int .u64 (l:Int)):=fun p=>cell_regrown c0 p.d p.os
 have k1:∀p:Regrown,(grow (redrawn w1 p.d) p.os).cell? ⟨w.heap.size,1,none⟩=some (.int .u64 (m:Int)):=fun p=>cell_regrown c1 p.d p.os
 refine wp_region_quiet_below (by kernel_rfl) (by kernel_rfl) ?_
 go_big_quiet_step (fail);go_big_quiet_step (fail);go_big_quiet_step (exact(s1 w1).re);go_big_quiet_step (fail);go_big_quiet_step (fail);go_big_quiet_step (exact(s2 w1).re);go_big_quiet_step (fail);go_big_quiet_step (fail);refine wpQuiet_nil ?_;rintro _ ⟨p,rfl⟩;have hb2:=below_regrown w1 p.d p.os
 generalize grow (redrawn w1 p.d) p.os=w2 at *
 replace hw:=Below.after hw hb2;clear hb2 k0 k1 s1 s2
 go_wp2_with (fail)
 go_ret2;exact⟨rfl,hw⟩
theorem a_fltSize (cs:Array Value):Gives 179 #[.agg cs] (.tuple #[.int .u64 8,.int .u64 8]):=by
 intro w
 go_enter Tryz.func179,Tryz.ntmps179
 go_wp2_with (first|(refine wpList_box rfl 183 _ rfl _ rfl (bFlt _) ?_)|fail)
 go_ret2;exact⟨rfl,(Below.refl _ _).alloc (Nat.le_refl _) _⟩
end Go.Proofs.YtmmlkfkpblokiaaGreatDoor
namespace Go.Proofs.YtmmlkfkpblokiaaGreatDoor
open Go Go.RowKit Go.Sort
def psz (k:Int) (l m:Nat) (s:Nat×Nat):Nat×Nat:=
 if k=1 then((en l).length,(en m).length) else if k=2 then(4,4) else if k=3∨k=7 then(8,8) else if k=4 then(1,1) else if k=5∨k=6 then(ctd l,ctd m)
 else if k=8 then(ctd s.1,ctd s.2) else(ctd (l*ctd s.1),ctd (m*ctd s.2))
def phd (no:Int):Nat:=(en (8*no.toNat)).length
def prL:List Slt→Nat→Nat→Nat×Nat
 |[],a,b=>(a,b)
 | .mk no k l m sub::ts,a,b=>prL ts (a+(phd no+(psz k l m (cpd (prL sub 0 0).1,cpd (prL sub 0 0).2)).1)) (b+(phd no+(psz k l m (cpd (prL sub 0 0).1,cpd (prL sub 0 0).2)).2))
def prS (ts:List Slt):Nat×Nat:=(cpd (prL ts 0 0).1,cpd (prL ts 0 0).2)
theorem prL_cons (t:Slt) (ts:List Slt) (a b:Nat):prL (t::ts) a b=prL ts (a+(phd t.no+(psz t.kind t.least t.most (prS t.sub)).1)) (b+(phd t.no+(psz t.kind t.least t.most (prS t.sub)).2)):=by
 cases t
 rw[prL];rfl
theorem cpd_eq (n:Nat):cpd n=min n 4194305:=by unfold cpd;split<;>omega
theorem cpd_ctd (n:Nat):cpd (ctd n)=frm n:=by rw[ctd,frm,Nat.add_comm]
theorem cpd_ctd_cpd (n:Nat):cpd (ctd (cpd n))=cpd (ctd n):=by
 by_cases h:4194305<n
 ·have e:cpd n=4194305:=if_pos h
  rw[e,cpd_eq,cpd_eq,ctd,ctd]
  omega
 ·have e:cpd n=n:=if_neg h
  rw[e]
theorem cpd_mul (x l:Nat):cpd (cpd x*l)=cpd (l*x):=by
 rw[Nat.mul_comm]
 by_cases h:4194305<x
 ·have e:cpd x=4194305:=if_pos h
  rw[e,cpd_eq,cpd_eq]
  cases l with
  |zero=>simp
  |succ l=>
   have h1:4194305≤(l+1)*4194305:=Nat.le_mul_of_pos_left _ (by omega)
   have h2:4194305≤(l+1)*x:=Nat.le_trans (by omega) (Nat.le_mul_of_pos_left x (by omega:0<l+1))
   omega
 ·have e:cpd x=x:=if_neg h
  rw[e]
theorem cpd_idem (a:Nat):cpd (cpd a)=cpd a:=by simp only[cpd_eq];omega
theorem cpd_c1 (n:Nat):cpd (ctd n)=cpd (frm n):=by rw[←cpd_ctd,cpd_idem]
theorem cpd_c2 (l x:Nat):cpd (ctd (l*ctd x))=cpd (frm (cpd (frm x*l))):=by rw[←cpd_ctd,←cpd_ctd,cpd_mul,cpd_ctd_cpd,cpd_idem]
theorem psz_cpd (k:Int) (l m:Nat) (s:Nat×Nat):cpd (psz k l m s).1=cpd (slsz k l m s).1∧cpd (psz k l m s).2=cpd (slsz k l m s).2:=by
 unfold psz slsz
 split
 ·exact⟨rfl,rfl⟩
 split
 ·exact⟨rfl,rfl⟩
 split
 ·exact⟨rfl,rfl⟩
 split
 ·exact⟨rfl,rfl⟩
 split
 ·exact⟨cpd_c1 _,cpd_c1 _⟩
 split
 ·exact⟨cpd_c1 _,cpd_c1 _⟩
 ·exact⟨cpd_c2 _ _,cpd_c2 _ _⟩
theorem phd_hdl (no k:Int):phd no=hdl no k:=by
 obtain⟨T,hT,h5⟩:=tyOf_nat k;unfold phd hdl;rw[hT,Int.toNat_natCast];generalize no.toNat=n
 have key:∀j,0<j→((en (8*n)).length≤j↔(en (8*n+T)).length≤j):=by
  intro j hj;rw[en_len _ j hj,en_len _ j hj]
  obtain⟨i,rfl⟩:∃i,j=i+1:=⟨j-1,by omega⟩
  have e:2^(7*(i+1))=8*(16*2^(7*i)):=by rw[Nat.mul_add,Nat.pow_add,←Nat.mul_assoc,Nat.mul_comm]
  rw[e];omega
 have p1:0<(en (8*n)).length:=en_pos _;have p2:0<(en (8*n+T)).length:=en_pos _;have h1:=(key _ p2).2 (Nat.le_refl _);have h2:=(key _ p1).1 (Nat.le_refl _);omega
theorem prL_spL:∀(ts:List Slt) (a b a' b':Nat),cpd a=a'→cpd b=b'→(cpd (prL ts a b).1,cpd (prL ts a b).2)=spL ts a' b'
 |[],a,b,a',b',h1,h2=>by rw[prL,spL,h1,h2]
 | .mk no k l m sub::ts,a,b,a',b',h1,h2=>by
  have hs:=prL_spL sub 0 0 0 0 rfl rfl;rw[prL,spL,←hs];have hp:=psz_cpd k l m (cpd (prL sub 0 0).1,cpd (prL sub 0 0).2);refine prL_spL ts _ _ _ _ ?_ ?_
  ·rw[←h1,←phd_hdl,Nat.add_assoc]
   generalize (psz k l m (cpd (prL sub 0 0).1,cpd (prL sub 0 0).2)).1=x at *
   generalize (slsz k l m (cpd (prL sub 0 0).1,cpd (prL sub 0 0).2)).1=y at *
   have:=hp.1
   simp only[cpd_eq] at *
   omega
  ·rw[←h2,←phd_hdl,Nat.add_assoc]
   generalize (psz k l m (cpd (prL sub 0 0).1,cpd (prL sub 0 0).2)).2=x at *
   generalize (slsz k l m (cpd (prL sub 0 0).1,cpd (prL sub 0 0).2)).2=y at *
   have:=hp.2
   simp only[cpd_eq] at *
   omega
theorem prS_spL (ts:List Slt):prS ts=spL ts 0 0:=prL_spL ts 0 0 0 0 rfl rfl
end Go.Proofs.YtmmlkfkpblokiaaGreatDoor
namespace Go.Proofs.YtmmlkfkpblokiaaGreatDoor
open Go Go.RowKit Go.Sort
attribute [local go_sem] setCell_drewN alloc_drewN
def shp (t:Slt) (u:Value):Value:=
 if t.kind=1 then .iface 177 (.agg #[.int .i64 0,.int .u64 (t.least:Int),.int .u64 (t.most:Int)])
 else if t.kind=2 then .iface 177 (.agg #[.int .i64 5,.int .u64 (t.least:Int),.int .u64 (t.most:Int)])
 else if t.kind=3 then .iface 177 (.agg #[.int .i64 1,.int .u64 (t.least:Int),.int .u64 (t.most:Int)])
 else if t.kind=4 then .iface 177 (.agg #[.int .i64 0,.int .u64 0,.int .u64 1])
 else if t.kind=5∨t.kind=6 then .iface 186 (.agg #[.int .u64 (t.least:Int),.int .u64 (t.most:Int),.bool (t.kind==6)])
 else if t.kind=7 then .iface 183 (.agg #[u])
 else if t.kind=8 then .iface 90 u
 else .iface 190 (.agg #[.int .u64 (t.least:Int),.int .u64 (t.most:Int),u])
inductive Msg (W:World):Value→List Slt→Prop
 |mk (ao:Option Addr) (cap:Nat) (ts:List Slt) (us:List Value) (hl:ts.length≤16) (hc:ts.length≤cap)
  (h:∀i,i<ts.length→∃b off,ao=some ⟨b,off,none⟩∧b<W.heap.size∧W.rangeAt b (off+i*2) [.int .i64 (gs ts i).no,shp (gs ts i) (gvs us i)]∧Sok (gs ts i))
  (hs:∀i,i<ts.length→nst (gs ts i)→Msg W (gvs us i) (gs ts i).sub):Msg W (.slice ao ts.length cap) ts
theorem infoP:(Tryz.prog.info? 138).map (·.size)=some 2:=by kernel_rfl
theorem zPl (W:World):(Instr.alloc 138 true (.tuple #[])).run Tryz.prog W=.ok (.pointer (some ⟨W.heap.size,0,none⟩)) (W.alloc (.cells #[.int .i64 0,.nilIface] 138)):=by kernel_rfl
theorem wpList_load_pl {ops:Array Oper} {rest:List Oper} {o:Oper} {a:Act} {w:World} {Q:Exit→Act→World→Prop} (hw:Region.wanted o (yielded ops a.tmps)=true) (x:Operand) (ho:o.op=.load 138 x)
 (g off:Nat) (hx:a.eval x=.pointer (some ⟨g,off,none⟩)) (c0 c1:Value) (hr:w.rangeAt g off [c0,c1])
 (h:wpList Tryz.prog ops Q rest (a.put o.dst (.agg #[c0,c1])) w):wpList Tryz.prog ops Q (o::rest) a w:=
 BigFrame.wpList_want hw fun _ hK=>wp_load_mid 138 x ho g off hx [c0,c1] _ hr Tryz.underlying138 rfl infoP (hK _ _ h)
theorem bLst (cs:Array Value) (W:World):(Instr.box 190 (.agg cs)).run Tryz.prog W=.ok (.pointer (some ⟨W.heap.size,0,none⟩)) (W.alloc (.cells cs 190)):=by kernel_rfl
theorem ctd_le (n:Nat) (h:n<4611686018427387904):ctd n≤n+10:=by have:=en_ten (n:=n) (by omega);unfold ctd;omega
theorem a_msize (u:Value) (x y:Nat) (hx:x≤4194305) (hy:y≤4194305) (w:World) (hS:Calls Tryz.prog 42 #[u] w fun e w'=>e=.returned (.tuple #[.int .u64 (x:Int),.int .u64 (y:Int)])∧Below w.heap.size w w'):Calls Tryz.prog 162 #[u] w fun e w'=>e=.returned (.tuple #[.int .u64 (ctd x:Int),.int .u64 (ctd y:Int)])∧Below w.heap.size w w':=by
 have c1:=a_counted x (by omega)
 have c2:=a_counted y (by omega)
 rw[←ctd] at c1 c2
 generalize ctd x=A at *
 generalize ctd y=Bm at *
 go_enter Tryz.func162,Tryz.ntmps162
 go_wp2_with (fail)
 refine hS.mono ?_;rintro e_ w1 ⟨rfl,hb⟩;clear hS
 go_wp2_with (fail)
 refine(c1 w1).mono ?_;rintro e_ w2 ⟨rfl,hb2⟩;replace hb:=Below.after hb hb2;clear hb2 c1
 go_wp2_with (fail)
 refine(c2 w2).mono ?_;rintro e_ w3 ⟨rfl,hb2⟩;replace hb:=Below.after hb hb2;clear hb2 c2
 go_wp2_with (fail)
 go_ret2;exact⟨rfl,hb⟩
theorem a_lsize (u:Value) (l m x y:Nat) (hlm:l≤m) (hm:m≤4096) (hx:x≤4194305) (hy:y≤4194305) (w:World) (hS:∀V,Below w.heap.size w V→Calls Tryz.prog 42 #[u] V fun e w'=>e=.returned (.tuple #[.int .u64 (x:Int),.int .u64 (y:Int)])∧Below V.heap.size V w'):Calls Tryz.prog 181 #[.agg #[.int .u64 (l:Int),.int .u64 (m:Int),u]] w fun e w'=>e=.returned (.tuple #[.int .u64 (ctd (l*ctd x):Int),.int .u64 (ctd (m*ctd y):Int)])∧Below w.heap.size w w':=by
 have R0:=hp1_0 w (.cells #[.int .u64 (l:Int),.int .u64 (m:Int),u] 190);have hw:Below w.heap.size w (w.alloc (.cells #[.int .u64 (l:Int),.int .u64 (m:Int),u] 190)):=(Below.refl _ _).alloc (Nat.le_refl _) _;have c2:(w.alloc (.cells #[.int .u64 (l:Int),.int .u64 (m:Int),u] 190)).cell? ⟨w.heap.size,2,none⟩=some u:=cell_of_row _ _ _ _ _ _ R0;have cM:=a_msize u x y hx hy _ (hS _ hw)
 have e1:=ctd_le x (by omega)
 have e2:=ctd_le y (by omega)
 generalize ctd x=A at *
 generalize ctd y=Bm at *
 have p1:l*A≤4096*4194315:=Nat.mul_le_mul (by omega) (by omega)
 have p2:m*Bm≤4096*4194315:=Nat.mul_le_mul hm (by omega)
 have s1:∀V,GivesB V 163 #[.int .u64 ((l:Int)*(A:Int))] (.int .u64 (ctd (l*A):Int)):=fun _ V _=>by have:=a_counted (l*A) (by omega) V;rwa [←ctd,Int.natCast_mul] at this
 have s2:∀V,GivesB V 163 #[.int .u64 ((m:Int)*(Bm:Int))] (.int .u64 (ctd (m*Bm):Int)):=fun _ V _=>by have:=a_counted (m*Bm) (by omega) V;rwa [←ctd,Int.natCast_mul] at this
 have p3:0≤(l:Int)*(A:Int)∧(l:Int)*(A:Int)≤17179914240:=by rw[←Int.natCast_mul];omega
 have p4:0≤(m:Int)*(Bm:Int)∧(m:Int)*(Bm:Int)≤17179914240:=by rw[←Int.natCast_mul];omega
 generalize ctd (l*A)=A2 at *
 generalize ctd (m*Bm)=B2 at *
 clear hS p1 p2
 go_enter Tryz.func181,Tryz.ntmps181
 go_wp2_with (first|(refine wpList_box rfl 190 _ rfl _ rfl (bLst _) ?_)|fail)
 generalize w.alloc (.cells #[.int .u64 (l:Int),.int .u64 (m:Int),u] 190)=w0 at *
 refine cM.mono ?_;rintro e_ w1 ⟨rfl,hb⟩;have R1:=keep hb R0;replace hw:=Below.after hw hb;clear cM hb R0 c2
 have c0:w1.cell? ⟨w.heap.size,0,none⟩=some (.int .u64 (l:Int)):=by rw[cell_of_row _ _ 0 _ _ _ R1];rfl
 have c1:w1.cell? ⟨w.heap.size,1,none⟩=some (.int .u64 (m:Int)):=by rw[cell_of_row _ _ 1 _ _ _ R1];rfl
 have k0:∀p:Regrown,(grow (redrawn w1 p.d) p.os).cell? ⟨w.heap.size,0,none⟩=some (.int .u64 (l:Int)):=fun p=>cell_regrown c0 p.d p.os
 have k1:∀p:Regrown,(grow (redrawn w1 p.d) p.os).cell? ⟨w.heap.size,1,none⟩=some (.int .u64 (m:Int)):=fun p=>cell_regrown c1 p.d p.os
 go_wp2_with (fail)
 refine wp_region_quiet_below (by kernel_rfl) (by kernel_rfl) ?_
 go_big_quiet_step (fail);go_big_quiet_step (fail);go_big_quiet_step (fail);go_big_quiet_step (fail);go_big_quiet_step (exact(s1 w1).re);go_big_quiet_step (fail);go_big_quiet_step (fail);go_big_quiet_step (fail);go_big_quiet_step (fail);go_big_quiet_step (exact(s2 w1).re);go_big_quiet_step (fail);go_big_quiet_step (fail);refine wpQuiet_nil ?_;rintro _ ⟨p,rfl⟩;have hb2:=below_regrown w1 p.d p.os
 generalize grow (redrawn w1 p.d) p.os=w2 at *
 replace hw:=Below.after hw hb2;clear hb2 k0 k1 s1 s2
 go_wp2_with (fail)
 go_ret2;exact⟨rfl,hw⟩
theorem a_mspan {W:World} {v:Value} {ts:List Slt} (h:Msg W v ts):gd ts→∀(w:World),Below W.heap.size W w→Calls Tryz.prog 42 #[v] w fun e w'=>e=.returned (.tuple #[.int .u64 ((prS ts).1:Int),.int .u64 ((prS ts).2:Int)])∧Below w.heap.size w w':=by
 induction h with
 |mk ao cap ts us hl hc h hs ih=>
  intro hgd w hw
  go_enter Tryz.func42,Tryz.ntmps42
  go_wp2_with (fail)
  go_loopw [2,3,11] (fun s t i wr=>∃(k a b:Nat),k≤ts.length∧i=.int .i64 k∧s=.int .u64 (a:Int)∧t=.int .u64 (b:Int)∧a≤k*68719476736∧b≤k*68719476736∧prL ts 0 0=prL (ts.drop k) a b∧Below w.heap.size w wr) (fun _ _ i _=>ts.length-(intOf i).toNat)
  case atStart=>exact⟨0,0,0,by omega,rfl,rfl,rfl,by omega,by omega,rfl,Below.refl _ _⟩
  case round=>
   obtain⟨k,a,b,hk,rfl,rfl,rfl,ha,hb',he,hb⟩:=hrel;have hww:=Below.after hw hb
   by_cases hlt:k<ts.length
   ·have hd:decide ((k:Int)<(ts.length:Int))=true:=by simp;omega
    obtain⟨⟨hn1,hn2⟩,hfit,hsubg⟩:=gd_at ts k hlt hgd
    rw[sdrop ts k hlt,prL_cons] at he;obtain⟨bb,off,hao,hbl,hra,hok⟩:=h k hlt;have cI:=ih k hlt;subst hao;have hrw:=rangeS_keep2 hra hww hbl
    have hk1:0≤(k:Int)∧(k:Int)<(ts.length:Int):=by omega
    have hcas:=fit_cases hfit;have hlb:=hok.2.2.1;have hmb:=hok.2.2.2
    obtain⟨N,hN⟩:∃N:Nat,(gs ts k).no=(N:Int):=⟨(gs ts k).no.toNat,by omega⟩
    have hph:phd (gs ts k).no=(en (8*N)).length:=by rw[phd,hN];rfl
    have hel:(en (8*N)).length≤10:=en_ten (by omega)
    have cH:=s_headOf N (by omega)
    have cS:=a_sizeOf (8*N) (by omega)
    rw[hph] at he;rw[hN] at hrw
    generalize (en (8*N)).length=H at *
    generalize gvs us k=u at *
    generalize hU:shp (gs ts k) u=U at *
    clear h hs ih hra hok hfit hph hN;have r0:=hp1_0 wr (.cells #[.int .i64 0,.nilIface] 138)
    have hone:(#[.int .i64 (N:Int),U]:Array Value).all (·.oneCell')=true:=by
     have h1:U.oneCell'=true:=by
      rw[←hU];unfold shp
      repeat' split
      all_goals rfl
     have h0:(Value.int .i64 (N:Int)).oneCell'=true:=rfl
     simp[h0,h1]
    have hba:Below wr.heap.size wr ((wr.alloc (.cells #[.int .i64 0,.nilIface] 138)).setRow wr.heap.size #[.int .i64 (N:Int),U]):=below_setRow ((Below.refl _ _).alloc (Nat.le_refl _) _) (Nat.le_refl _) _;have r1:=setRow_heap _ wr.heap.size _ #[.int .i64 (N:Int),U] _ _ r0
    have hc0:((wr.alloc (.cells #[.int .i64 0,.nilIface] 138)).setRow wr.heap.size #[.int .i64 (N:Int),U]).cell? ⟨wr.heap.size,0,none⟩=some (.int .i64 (N:Int)):=by rw[cell_of_row _ _ 0 _ _ _ r1];rfl
    replace hU:=hide hU
    go_wp2_with (first|(refine wpList_load_pl rfl _ rfl bb (off+k*2) rfl _ _ hrw ?_)|(refine wpList_alloc rfl 138 rfl #[.int .i64 0,.nilIface] zPl ?_)|(refine wpList_store_row rfl 138 _ _ rfl (wr.heap.size) #[.int .i64 (N:Int),U] rfl rfl 138 _ r0 infoP rfl hone ?_)|fail)
    replace hb:=Below.after hb hba;replace hww:=Below.after hww hba;clear r0 hone hba hc0
    generalize (wr.alloc (.cells #[.int .i64 0,.nilIface] 138)).setRow wr.heap.size #[.int .i64 (N:Int),U]=w1 at *
    generalize wr.heap.size=g at *
    refine(cH w1).mono ?_;rintro e_ w2 ⟨rfl,hb2⟩;replace r1:=keep hb2 r1;replace hb:=Below.after hb hb2;replace hww:=Below.after hww hb2;clear cH hb2
    go_wp2_with (fail)
    refine(cS w2).mono ?_;rintro e_ w3 ⟨rfl,hb2⟩;replace r1:=keep hb2 r1;replace hb:=Below.after hb hb2;replace hww:=Below.after hww hb2;clear cS hb2
    have hc1:w3.cell? ⟨g,1,none⟩=some U:=by rw[cell_of_row _ _ 1 _ _ _ r1];rfl
    rcases hcas with⟨hkd,hlm⟩|⟨hkd,hlm,hm3⟩|⟨hkd,hlm⟩|hkd|⟨hk56,hlm,hm4⟩|hkd|hkd|⟨hkd,hlm,hm4⟩
    ·have hU1:=hU.out
     unfold shp at hU1
     rw[if_pos hkd] at hU1;subst hU1
     have hz:psz (gs ts k).kind (gs ts k).least (gs ts k).most (prS (gs ts k).sub)=((en (gs ts k).least).length,(en (gs ts k).most).length):=by unfold psz;rw[if_pos hkd]
     rw[hz] at he;simp only at he;have hA1:=en_ten hlb;have hB1:=en_ten hmb
     have hmm : ∀ (x : Value) (V : World), (method 356 177 x "pawl/schema.size").run Tryz.prog V = .ok (178, x) V := fun x V => by kernel_rfl
     have cZ:=a_numSize 0 (gs ts k).least (gs ts k).most hlb hmb w3
     rw[show nsz 0 (gs ts k).least (gs ts k).most=((en (gs ts k).least).length,(en (gs ts k).most).length) from rfl] at cZ
     simp only at cZ
     generalize hA:(en (gs ts k).least).length=A at *
     generalize hBm:(en (gs ts k).most).length=Bm at *
     replace hA:=hide hA;replace hBm:=hide hBm;have he2:Hid (prL ts 0 0=prL (ts.drop (k+1)) (a+(H+A)) (b+(H+Bm))):=hide he
     have ha16:a≤1099511627776:=by omega
     have hb16:b≤1099511627776:=by omega
     clear he cI hsubg
     go_wp2_with (fail)
     refine cZ.mono ?_;rintro e_ w4 ⟨rfl,hb2⟩;replace hb:=Below.after hb hb2;clear cZ hb2 hmm
     go_wp2_with (fail)
     refine⟨⟨k+1,a+(H+A),b+(H+Bm),by omega,by go_num,by first|rfl|(congr 1;done)|(congr 1;omega)|(simp only[Int.natCast_add];rfl)|(simp[Int.natCast_add];done),by first|rfl|(congr 1;done)|(congr 1;omega)|(simp only[Int.natCast_add];rfl)|(simp[Int.natCast_add];done),by omega,by omega,he2.out,hb⟩,?_⟩
     simp[intOf];omega
    ·have hU1:=hU.out
     unfold shp at hU1
     rw[if_neg (by omega),if_pos (by omega)] at hU1
     subst hU1
     have hz:psz (gs ts k).kind (gs ts k).least (gs ts k).most (prS (gs ts k).sub)=(4,4):=by unfold psz;rw[if_neg (by omega),if_pos (by omega)]
     rw[hz] at he;simp only at he;have hA1:True:=trivial
     have hmm : ∀ (x : Value) (V : World), (method 356 177 x "pawl/schema.size").run Tryz.prog V = .ok (178, x) V := fun x V => by kernel_rfl
     have cZ:=a_numSize 5 (gs ts k).least (gs ts k).most hlb hmb w3
     rw[show nsz 5 (gs ts k).least (gs ts k).most=(4,4) from rfl] at cZ
     simp only at cZ;have he2:Hid (prL ts 0 0=prL (ts.drop (k+1)) (a+(H+4)) (b+(H+4))):=hide he
     have ha16:a≤1099511627776:=by omega
     have hb16:b≤1099511627776:=by omega
     clear he cI hsubg
     go_wp2_with (fail)
     refine cZ.mono ?_;rintro e_ w4 ⟨rfl,hb2⟩;replace hb:=Below.after hb hb2;clear cZ hb2 hmm
     go_wp2_with (fail)
     refine⟨⟨k+1,a+(H+4),b+(H+4),by omega,by go_num,by first|rfl|(congr 1;done)|(congr 1;omega)|(simp only[Int.natCast_add];rfl)|(simp[Int.natCast_add];done),by first|rfl|(congr 1;done)|(congr 1;omega)|(simp only[Int.natCast_add];rfl)|(simp[Int.natCast_add];done),by omega,by omega,he2.out,hb⟩,?_⟩
     simp[intOf];omega
    ·have hU1:=hU.out
     unfold shp at hU1
     rw[if_neg (by omega),if_neg (by omega),if_pos (by omega)] at hU1
     subst hU1
     have hz:psz (gs ts k).kind (gs ts k).least (gs ts k).most (prS (gs ts k).sub)=(8,8):=by unfold psz;rw[if_neg (by omega),if_neg (by omega),if_pos (by omega)]
     rw[hz] at he;simp only at he;have hA1:True:=trivial
     have hmm : ∀ (x : Value) (V : World), (method 356 177 x "pawl/schema.size").run Tryz.prog V = .ok (178, x) V := fun x V => by kernel_rfl
     have cZ:=a_numSize 1 (gs ts k).least (gs ts k).most hlb hmb w3
     rw[show nsz 1 (gs ts k).least (gs ts k).most=(8,8) from rfl] at cZ
     simp only at cZ;have he2:Hid (prL ts 0 0=prL (ts.drop (k+1)) (a+(H+8)) (b+(H+8))):=hide he
     have ha16:a≤1099511627776:=by omega
     have hb16:b≤1099511627776:=by omega
     clear he cI hsubg
     go_wp2_with (fail)
     refine cZ.mono ?_;rintro e_ w4 ⟨rfl,hb2⟩;replace hb:=Below.after hb hb2;clear cZ hb2 hmm
     go_wp2_with (fail)
     refine⟨⟨k+1,a+(H+8),b+(H+8),by omega,by go_num,by first|rfl|(congr 1;done)|(congr 1;omega)|(simp only[Int.natCast_add];rfl)|(simp[Int.natCast_add];done),by first|rfl|(congr 1;done)|(congr 1;omega)|(simp only[Int.natCast_add];rfl)|(simp[Int.natCast_add];done),by omega,by omega,he2.out,hb⟩,?_⟩
     simp[intOf];omega
    ·have hU1:=hU.out
     unfold shp at hU1
     rw[if_neg (by omega),if_neg (by omega),if_neg (by omega),if_pos (by omega)] at hU1
     subst hU1
     have hz:psz (gs ts k).kind (gs ts k).least (gs ts k).most (prS (gs ts k).sub)=(1,1):=by unfold psz;rw[if_neg (by omega),if_neg (by omega),if_neg (by omega),if_pos (by omega)]
     rw[hz] at he;simp only at he;have hA1:True:=trivial
     have hmm : ∀ (x : Value) (V : World), (method 356 177 x "pawl/schema.size").run Tryz.prog V = .ok (178, x) V := fun x V => by kernel_rfl
     have cZ:=a_numSize 0 0 1 (by omega) (by omega) w3
     rw[show nsz 0 0 1=(1,1) by decide+kernel] at cZ
     simp only at cZ
     rw[show((0:Nat):Int)=0 from rfl,show((1:Nat):Int)=1 from rfl] at cZ
     have he2:Hid (prL ts 0 0=prL (ts.drop (k+1)) (a+(H+1)) (b+(H+1))):=hide he
     have ha16:a≤1099511627776:=by omega
     have hb16:b≤1099511627776:=by omega
     clear he cI hsubg
     go_wp2_with (fail)
     refine cZ.mono ?_;rintro e_ w4 ⟨rfl,hb2⟩;replace hb:=Below.after hb hb2;clear cZ hb2 hmm
     go_wp2_with (fail)
     refine⟨⟨k+1,a+(H+1),b+(H+1),by omega,by go_num,by first|rfl|(congr 1;done)|(congr 1;omega)|(simp only[Int.natCast_add];rfl)|(simp[Int.natCast_add];done),by first|rfl|(congr 1;done)|(congr 1;omega)|(simp only[Int.natCast_add];rfl)|(simp[Int.natCast_add];done),by omega,by omega,he2.out,hb⟩,?_⟩
     simp[intOf];omega
    ·have hU1:=hU.out
     unfold shp at hU1
     rw[if_neg (by omega),if_neg (by omega),if_neg (by omega),if_neg (by omega),if_pos (by omega)] at hU1
     subst hU1
     have hz:psz (gs ts k).kind (gs ts k).least (gs ts k).most (prS (gs ts k).sub)=(ctd (gs ts k).least,ctd (gs ts k).most):=by unfold psz;rw[if_neg (by omega),if_neg (by omega),if_neg (by omega),if_neg (by omega),if_pos (by omega)]
     rw[hz] at he;simp only at he
     have hA1:=ctd_le (gs ts k).least (by omega)
     have hB1:=ctd_le (gs ts k).most (by omega)
     have hmm : ∀ (x : Value) (V : World), (method 356 186 x "pawl/schema.size").run Tryz.prog V = .ok (180, x) V := fun x V => by kernel_rfl
     have cZ:=a_octSize (gs ts k).least (gs ts k).most ((gs ts k).kind==6) (by omega) (by omega) w3
     generalize hA:ctd (gs ts k).least=A at *
     generalize hBm:ctd (gs ts k).most=Bm at *
     replace hA:=hide hA;replace hBm:=hide hBm;have he2:Hid (prL ts 0 0=prL (ts.drop (k+1)) (a+(H+A)) (b+(H+Bm))):=hide he
     have ha16:a≤1099511627776:=by omega
     have hb16:b≤1099511627776:=by omega
     clear he cI hsubg
     go_wp2_with (fail)
     refine cZ.mono ?_;rintro e_ w4 ⟨rfl,hb2⟩;replace hb:=Below.after hb hb2;clear cZ hb2 hmm
     go_wp2_with (fail)
     refine⟨⟨k+1,a+(H+A),b+(H+Bm),by omega,by go_num,by first|rfl|(congr 1;done)|(congr 1;omega)|(simp only[Int.natCast_add];rfl)|(simp[Int.natCast_add];done),by first|rfl|(congr 1;done)|(congr 1;omega)|(simp only[Int.natCast_add];rfl)|(simp[Int.natCast_add];done),by omega,by omega,he2.out,hb⟩,?_⟩
     simp[intOf];omega
    ·have hU1:=hU.out
     unfold shp at hU1
     rw[if_neg (by omega),if_neg (by omega),if_neg (by omega),if_neg (by omega),if_neg (by omega),if_pos (by omega)] at hU1
     subst hU1
     have hz:psz (gs ts k).kind (gs ts k).least (gs ts k).most (prS (gs ts k).sub)=(8,8):=by unfold psz;rw[if_neg (by omega),if_neg (by omega),if_pos (by omega)]
     rw[hz] at he;simp only at he;have hA1:True:=trivial
     have hmm : ∀ (x : Value) (V : World), (method 356 183 x "pawl/schema.size").run Tryz.prog V = .ok (179, x) V := fun x V => by kernel_rfl
     have cZ:=a_fltSize #[u] w3;have he2:Hid (prL ts 0 0=prL (ts.drop (k+1)) (a+(H+8)) (b+(H+8))):=hide he
     have ha16:a≤1099511627776:=by omega
     have hb16:b≤1099511627776:=by omega
     clear he cI hsubg
     go_wp2_with (fail)
     refine cZ.mono ?_;rintro e_ w4 ⟨rfl,hb2⟩;replace hb:=Below.after hb hb2;clear cZ hb2 hmm
     go_wp2_with (fail)
     refine⟨⟨k+1,a+(H+8),b+(H+8),by omega,by go_num,by first|rfl|(congr 1;done)|(congr 1;omega)|(simp only[Int.natCast_add];rfl)|(simp[Int.natCast_add];done),by first|rfl|(congr 1;done)|(congr 1;omega)|(simp only[Int.natCast_add];rfl)|(simp[Int.natCast_add];done),by omega,by omega,he2.out,hb⟩,?_⟩
     simp[intOf];omega
    ·have hU1:=hU.out
     unfold shp at hU1
     rw[if_neg (by omega),if_neg (by omega),if_neg (by omega),if_neg (by omega),if_neg (by omega),if_neg (by omega),if_pos (by omega)] at hU1
     subst hU1
     have hz:psz (gs ts k).kind (gs ts k).least (gs ts k).most (prS (gs ts k).sub)=(ctd (prS (gs ts k).sub).1,ctd (prS (gs ts k).sub).2):=by unfold psz;rw[if_neg (by omega),if_neg (by omega),if_neg (by omega),if_neg (by omega),if_neg (by omega),if_pos (by omega)]
     rw[hz] at he;simp only at he;have hp:=prS_spL (gs ts k).sub
     have hq:=spL_le (gs ts k).sub 0 0 (by omega) (by omega)
     rw[←hp] at hq;obtain⟨hq1,hq2⟩:=hq;clear hp
     have hA1:=ctd_le (prS (gs ts k).sub).1 (by omega)
     have hB1:=ctd_le (prS (gs ts k).sub).2 (by omega)
     have hmm : ∀ (x : Value) (V : World), (method 356 90 x "pawl/schema.size").run Tryz.prog V = .ok (162, x) V := fun x V => by kernel_rfl
     have cZ:=a_msize u (prS (gs ts k).sub).1 (prS (gs ts k).sub).2 hq1 hq2 w3 (cI (.inl hkd) (hsubg (.inl hkd)) w3 hww)
     generalize hA:ctd (prS (gs ts k).sub).1=A at *
     generalize hBm:ctd (prS (gs ts k).sub).2=Bm at *
     replace hA:=hide hA;replace hBm:=hide hBm;have he2:Hid (prL ts 0 0=prL (ts.drop (k+1)) (a+(H+A)) (b+(H+Bm))):=hide he
     have ha16:a≤1099511627776:=by omega
     have hb16:b≤1099511627776:=by omega
     clear he cI hsubg
     go_wp2_with (fail)
     refine cZ.mono ?_;rintro e_ w4 ⟨rfl,hb2⟩;replace hb:=Below.after hb hb2;clear cZ hb2 hmm
     go_wp2_with (fail)
     refine⟨⟨k+1,a+(H+A),b+(H+Bm),by omega,by go_num,by first|rfl|(congr 1;done)|(congr 1;omega)|(simp only[Int.natCast_add];rfl)|(simp[Int.natCast_add];done),by first|rfl|(congr 1;done)|(congr 1;omega)|(simp only[Int.natCast_add];rfl)|(simp[Int.natCast_add];done),by omega,by omega,he2.out,hb⟩,?_⟩
     simp[intOf];omega
    ·have hU1:=hU.out
     unfold shp at hU1
     rw[if_neg (by omega),if_neg (by omega),if_neg (by omega),if_neg (by omega),if_neg (by omega),if_neg (by omega),if_neg (by omega)] at hU1
     subst hU1
     have hz:psz (gs ts k).kind (gs ts k).least (gs ts k).most (prS (gs ts k).sub)=(ctd ((gs ts k).least*ctd (prS (gs ts k).sub).1),ctd ((gs ts k).most*ctd (prS (gs ts k).sub).2)):=by unfold psz;rw[if_neg (by omega),if_neg (by omega),if_neg (by omega),if_neg (by omega),if_neg (by omega),if_neg (by omega)]
     rw[hz] at he;simp only at he;have hp:=prS_spL (gs ts k).sub
     have hq:=spL_le (gs ts k).sub 0 0 (by omega) (by omega)
     rw[←hp] at hq;obtain⟨hq1,hq2⟩:=hq;clear hp
     have hA1:=ctd_le (prS (gs ts k).sub).1 (by omega)
     have hB1:=ctd_le (prS (gs ts k).sub).2 (by omega)
     have hA2:=Nat.mul_le_mul (show(gs ts k).least≤4096 by omega) (show ctd (prS (gs ts k).sub).1≤4194315 by omega)
     have hB2:=Nat.mul_le_mul hm4 (show ctd (prS (gs ts k).sub).2≤4194315 by omega)
     have hA3:=ctd_le ((gs ts k).least*ctd (prS (gs ts k).sub).1) (by omega)
     have hB3:=ctd_le ((gs ts k).most*ctd (prS (gs ts k).sub).2) (by omega)
     have hmm : ∀ (x : Value) (V : World), (method 356 190 x "pawl/schema.size").run Tryz.prog V = .ok (181, x) V := fun x V => by kernel_rfl
     have cZ:=a_lsize u (gs ts k).least (gs ts k).most (prS (gs ts k).sub).1 (prS (gs ts k).sub).2 hlm hm4 hq1 hq2 w3 (fun V hV=>cI (.inr hkd) (hsubg (.inr hkd)) V (Below.after hww hV))
     generalize hA:ctd ((gs ts k).least*ctd (prS (gs ts k).sub).1)=A at *
     generalize hBm:ctd ((gs ts k).most*ctd (prS (gs ts k).sub).2)=Bm at *
     replace hA:=hide hA;replace hBm:=hide hBm;have he2:Hid (prL ts 0 0=prL (ts.drop (k+1)) (a+(H+A)) (b+(H+Bm))):=hide he
     have ha16:a≤1099511627776:=by omega
     have hb16:b≤1099511627776:=by omega
     clear he cI hsubg
     go_wp2_with (fail)
     refine cZ.mono ?_;rintro e_ w4 ⟨rfl,hb2⟩;replace hb:=Below.after hb hb2;clear cZ hb2 hmm
     go_wp2_with (fail)
     refine⟨⟨k+1,a+(H+A),b+(H+Bm),by omega,by go_num,by first|rfl|(congr 1;done)|(congr 1;omega)|(simp only[Int.natCast_add];rfl)|(simp[Int.natCast_add];done),by first|rfl|(congr 1;done)|(congr 1;omega)|(simp only[Int.natCast_add];rfl)|(simp[Int.natCast_add];done),by omega,by omega,he2.out,hb⟩,?_⟩
     simp[intOf];omega
   ·have hd:decide ((k:Int)<(ts.length:Int))=false:=by simp;omega
    rw[List.drop_eq_nil_of_le (by omega),prL] at he
    have hp:Hid (prS ts=(cpd a,cpd b)):=hide (by unfold prS;rw[he])
    have m1:min (a:Int) 4194305=(cpd a:Int):=by rw[cpd_eq];omega
    have m2:min (b:Int) 4194305=(cpd b:Int):=by rw[cpd_eq];omega
    clear h hs ih he
    go_wp2_with (fail)
    all_goals
     go_ret2
     refine⟨?_,hb⟩;rw[hp.out];have q1:=m1;have q2:=m2
     first
      |(rw[Int.min_eq_right (by omega)] at q1;rw[Int.min_eq_right (by omega)] at q2;rw[←q1,←q2];rfl)
      |(rw[Int.min_eq_right (by omega)] at q1;rw[Int.min_eq_left (by omega)] at q2;rw[←q1,←q2];rfl)
      |(rw[Int.min_eq_left (by omega)] at q1;rw[Int.min_eq_right (by omega)] at q2;rw[←q1,←q2];rfl)
      |(rw[Int.min_eq_left (by omega)] at q1;rw[Int.min_eq_left (by omega)] at q2;rw[←q1,←q2];rfl)
end Go.Proofs.YtmmlkfkpblokiaaGreatDoor
namespace Go.Proofs.YtmmlkfkpblokiaaGreatDoor
open Go Go.RowKit Go.Sort
def tot:List Slt→Nat
 |[]=>0
 | .mk _ k _ _ sub::ts=>1+(if k=8∨k=9 then tot sub else 0)+tot ts
def vok:List Slt→Int→Int→Prop
 |[],_,_=>True
 | .mk no k l m sub::ts,prev,deep=>((prev<no∧1≤no∧no≤536870911)∧fitN k (l:Int) (m:Int) sub.length=true∧((k=8∨k=9)→sub.length≤16∧deep+1≤6∧vok sub 0 (deep+1)))∧vok ts no deep
theorem len_tot:∀ts:List Slt,ts.length≤tot ts
 |[]=>by simp
 | .mk _ k _ _ sub::ts=>by
  have:=len_tot ts;rw[tot,List.length_cons];omega
theorem lfL_val:∀(ts:List Slt) (prev deep room:Int),-1≤room→(vok ts prev deep∧(tot ts:Int)≤room→lfL ts prev deep room=room-tot ts)∧(¬(vok ts prev deep∧(tot ts:Int)≤room)→lfL ts prev deep room<0)
 |[],prev,deep,room,h=>by
  rw[lfL,vok,tot]
  exact⟨fun _=>by omega,fun h2=>by
   have:¬((0:Nat):Int)≤room:=fun x=>h2 ⟨trivial,x⟩
   omega⟩
 | .mk no k l m sub::ts,prev,deep,room,h=>by
  rw[lfL,vok,tot]
  by_cases hr:room<0
  ·rw[if_pos hr]
   exact⟨fun⟨_,x⟩=>by omega,fun _=>hr⟩
  ·rw[if_neg hr]
   by_cases hb:no<1∨536870911<no∨no≤prev∨fitN k (l:Int) (m:Int) sub.length=false
   ·rw[if_pos hb]
    refine⟨fun⟨⟨⟨h1,h2,_⟩,_⟩,_⟩=>?_,fun _=>by omega⟩
    rcases hb with x|x|x|x
    ·omega
    ·omega
    ·omega
    ·rw[h2] at x;cases x
   ·rw[if_neg hb]
    have hn:prev<no∧1≤no∧no≤536870911:=⟨Int.not_le.1 fun x=>hb (.inr (.inr (.inl x))),Int.not_lt.1 fun x=>hb (.inl x),Int.not_lt.1 fun x=>hb (.inr (.inl x))⟩
    have hf:fitN k (l:Int) (m:Int) sub.length=true:=by
     cases q:fitN k (l:Int) (m:Int) sub.length with
     |true=>rfl
     |false=>exact absurd (.inr (.inr (.inr q))) hb
    by_cases hk:k=8∨k=9
    ·rw[if_pos hk]
     by_cases hr1:0≤room-1
     ·rw[if_pos ⟨hk,hr1⟩]
      by_cases hs:16<sub.length∨6<deep+1
      ·rw[if_pos hs,lfL_neg _ _ _ _ (by omega)]
       refine⟨fun⟨⟨⟨_,_,h3⟩,_⟩,_⟩=>?_,fun _=>by omega⟩
       have:=h3 hk;omega
      ·rw[if_neg hs]
       obtain⟨i1,i2⟩:=lfL_val sub 0 (deep+1) (room-1) (by omega)
       by_cases hv:vok sub 0 (deep+1)∧(tot sub:Int)≤room-1
       ·rw[i1 hv]
        obtain⟨j1,j2⟩:=lfL_val ts no deep (room-1-tot sub) (by omega)
        refine⟨fun⟨⟨_,h4⟩,h5⟩=>?_,fun h6=>?_⟩
        ·rw[j1 ⟨h4,by omega⟩];omega
        ·refine j2 fun⟨a,b⟩=>h6 ⟨⟨⟨hn,hf,fun _=>⟨by omega,by omega,hv.1⟩⟩,a⟩,by omega⟩
       ·have i3:=i2 hv
        rw[lfL_neg _ _ _ _ i3]
        refine⟨fun⟨⟨⟨_,_,h3⟩,_⟩,h5⟩=>absurd ⟨(h3 hk).2.2,by omega⟩ hv,fun _=>i3⟩
     ·rw[if_neg (fun x=>hr1 x.2),lfL_neg _ _ _ _ (by omega)]
      refine⟨fun⟨_,h5⟩=>by omega,fun _=>by omega⟩
    ·rw[if_neg hk,if_neg (fun x=>hk x.1)]
     obtain⟨j1,j2⟩:=lfL_val ts no deep (room-1) (by omega)
     refine⟨fun⟨⟨_,h4⟩,h5⟩=>?_,fun h6=>?_⟩
     ·rw[j1 ⟨h4,by omega⟩];omega
     ·exact j2 fun⟨a,b⟩=>h6 ⟨⟨⟨hn,hf,fun x=>absurd x hk⟩,a⟩,by omega⟩
def pmL:List Slt→Int→Int→Int→Int
 |[],_,_,L=>L
 | .mk no k l m sub::ts,prev,deep,L=>if no≤prev∨536870911<no∨fitN k (l:Int) (m:Int) sub.length=false then-1 else
  if k=8∨k=9 then
   (if 6<deep+1∨16<sub.length∨L<sub.length then-1 else
    if pmL sub 0 (deep+1) (L-sub.length)<0 then-1 else pmL ts no deep (pmL sub 0 (deep+1) (L-sub.length)))
  else pmL ts no deep L
def pm (ts:List Slt) (deep L:Int):Int:=if 6<deep∨16<ts.length∨L<ts.length then-1 else pmL ts 0 deep (L-ts.length)
def psh (t:Slt) (deep L:Int):Int:=if sfit t=false then-1 else if nst t then pm t.sub (deep+1) L else L
theorem pmL_cons (t:Slt) (ts:List Slt) (prev deep L:Int) (hL:0≤L):pmL (t::ts) prev deep L=if t.no≤prev∨536870911<t.no then-1 else if psh t deep L<0 then-1 else pmL ts t.no deep (psh t deep L):=by
 obtain⟨no,k,l,m,sub⟩:=t;rw[pmL]
 show _=if no≤prev∨536870911<no then-1 else if psh (.mk no k l m sub) deep L<0 then-1 else pmL ts no deep (psh (.mk no k l m sub) deep L)
 by_cases h1:no≤prev∨536870911<no
 ·rw[if_pos (h1.elim .inl fun x=>.inr (.inl x)),if_pos h1]
 ·rw[if_neg h1]
  by_cases h2:fitN k (l:Int) (m:Int) sub.length=false
  ·have e:psh (.mk no k l m sub) deep L= -1:=if_pos h2
   rw[if_pos (.inr (.inr h2)),e,if_pos (by decide)]
  ·rw[if_neg (fun q=>q.elim (fun x=>h1 (.inl x)) fun q=>q.elim (fun x=>h1 (.inr x)) h2)]
   have e0:psh (.mk no k l m sub) deep L=if nst (.mk no k l m sub) then pm sub (deep+1) L else L:=if_neg h2
   by_cases hk:k=8∨k=9
   ·have e:psh (.mk no k l m sub) deep L=pm sub (deep+1) L:=e0.trans (if_pos hk)
    rw[if_pos hk,e,pm]
    by_cases hs:6<deep+1∨16<sub.length∨L<sub.length
    ·rw[if_pos hs,if_pos hs,if_pos (by decide)]
    ·rw[if_neg hs,if_neg hs]
   ·have e:psh (.mk no k l m sub) deep L=L:=e0.trans (if_neg hk)
    rw[if_neg hk,e,if_neg (by omega)]
theorem pmL_val:∀(ts:List Slt) (prev deep L:Int),0≤prev→0≤L→(vok ts prev deep∧(tot ts:Int)-ts.length≤L→pmL ts prev deep L=L-(tot ts-ts.length))∧(¬(vok ts prev deep∧(tot ts:Int)-ts.length≤L)→pmL ts prev deep L<0)
 |[],prev,deep,L,_,h=>by
  rw[pmL,vok,tot]
  exact⟨fun _=>by simp,fun h2=>absurd ⟨trivial,by simpa using h⟩ h2⟩
 | .mk no k l m sub::ts,prev,deep,L,hp,h=>by
  have ht:=len_tot ts;have ht2:=len_tot sub;rw[pmL,vok,tot,List.length_cons]
  by_cases hb:no≤prev∨536870911<no∨fitN k (l:Int) (m:Int) sub.length=false
  ·rw[if_pos hb]
   refine⟨fun⟨⟨⟨h1,h2,_⟩,_⟩,_⟩=>?_,fun _=>by omega⟩
   rcases hb with x|x|x
   ·omega
   ·omega
   ·rw[h2] at x;cases x
  ·rw[if_neg hb]
   have hn:prev<no∧1≤no∧no≤536870911:=by
    have a:¬no≤prev:=fun x=>hb (.inl x)
    have b:¬536870911<no:=fun x=>hb (.inr (.inl x))
    omega
   have hf:fitN k (l:Int) (m:Int) sub.length=true:=by
    cases q:fitN k (l:Int) (m:Int) sub.length with
    |true=>rfl
    |false=>exact absurd (.inr (.inr q)) hb
   by_cases hk:k=8∨k=9
   ·rw[if_pos hk,if_pos hk]
    by_cases hs:6<deep+1∨16<sub.length∨L<sub.length
    ·rw[if_pos hs]
     refine⟨fun⟨⟨⟨_,_,h3⟩,_⟩,h5⟩=>?_,fun _=>by omega⟩
     have:=h3 hk;omega
    ·rw[if_neg hs]
     obtain⟨i1,i2⟩:=pmL_val sub 0 (deep+1) (L-sub.length) (by omega) (by omega)
     by_cases hv:vok sub 0 (deep+1)∧(tot sub:Int)-sub.length≤L-sub.length
     ·rw[i1 hv,if_neg (by omega)]
      obtain⟨j1,j2⟩:=pmL_val ts no deep (L-sub.length-(tot sub-sub.length)) (by omega) (by omega)
      refine⟨fun⟨⟨_,h4⟩,h5⟩=>?_,fun h6=>?_⟩
      ·rw[j1 ⟨h4,by omega⟩];omega
      ·exact j2 fun⟨a,b⟩=>h6 ⟨⟨⟨hn,hf,fun _=>⟨by omega,by omega,hv.1⟩⟩,a⟩,by omega⟩
     ·rw[if_pos (i2 hv)]
      exact⟨fun⟨⟨⟨_,_,h3⟩,_⟩,h5⟩=>absurd ⟨(h3 hk).2.2,by omega⟩ hv,fun _=>by omega⟩
   ·rw[if_neg hk,if_neg hk]
    obtain⟨j1,j2⟩:=pmL_val ts no deep L (by omega) h
    refine⟨fun⟨⟨_,h4⟩,h5⟩=>?_,fun h6=>?_⟩
    ·rw[j1 ⟨h4,by omega⟩];omega
    ·exact j2 fun⟨a,b⟩=>h6 ⟨⟨⟨hn,hf,fun x=>absurd x hk⟩,a⟩,by omega⟩
theorem pm_lft (ts:List Slt) (deep L:Int) (h:0≤L):0≤pm ts deep L↔0≤lft ts deep L:=by
 have ht:=len_tot ts
 obtain⟨a1,a2⟩:=lfL_val ts 0 deep L (by omega)
 unfold pm lft
 by_cases h1:6<deep∨16<ts.length
 ·rw[if_pos (by omega),if_pos (by omega)]
 ·rw[if_neg (by omega:¬(16<ts.length∨6<deep))]
  by_cases h2:L<ts.length
  ·rw[if_pos (by omega)]
   have:=a2 fun⟨_,x⟩=>by omega
   omega
  ·rw[if_neg (by omega)]
   obtain⟨b1,b2⟩:=pmL_val ts 0 deep (L-ts.length) (by omega) (by omega)
   by_cases hv:vok ts 0 deep∧(tot ts:Int)≤L
   ·rw[a1 hv,b1 ⟨hv.1,by omega⟩];omega
   ·have c1:=a2 hv
    have c2:=b2 fun⟨x,y⟩=>hv ⟨x,by omega⟩
    omega
theorem pmL_le (ts:List Slt) (prev deep L:Int) (hp:0≤prev) (h:0≤L):pmL ts prev deep L≤L:=by
 have ht:=len_tot ts;obtain⟨b1,b2⟩:=pmL_val ts prev deep L hp h
 by_cases hv:vok ts prev deep∧(tot ts:Int)-ts.length≤L
 ·rw[b1 hv];omega
 ·have:=b2 hv;omega
theorem pm_le (ts:List Slt) (deep L:Int) (h:0≤L):pm ts deep L≤L:=by
 unfold pm
 split
 ·omega
 ·have:=pmL_le ts 0 deep (L-ts.length) (by omega) (by omega)
  omega
theorem psh_le (t:Slt) (deep L:Int) (h:0≤L):psh t deep L≤L:=by
 unfold psh
 split
 ·omega
 ·split
  ·exact pm_le _ _ _ h
  ·omega
structure But (g:Nat) (w w':World):Prop where
 os:w'.os=w.os
 tape:w'.tape=w.tape
 output:w'.output=w.output
 size:w.heap.size≤w'.heap.size
 block:∀k,k<w.heap.size→k≠g→w'.heap[k]? =w.heap[k]?
theorem But.refl (g:Nat) (w:World):But g w w:=⟨rfl,rfl,rfl,Nat.le_refl _,fun _ _ _=>rfl⟩
theorem But.trans {g:Nat} {a b c:World} (h:But g a b) (k:But g b c):But g a c:=
 ⟨k.os.trans h.os,k.tape.trans h.tape,k.output.trans h.output,Nat.le_trans h.size k.size,fun i hi hg=>(k.block i (Nat.lt_of_lt_of_le hi h.size) hg).trans (h.block i hi hg)⟩
theorem But.of {g:Nat} {w w':World} (h:Below w.heap.size w w'):But g w w':=⟨h.os,h.tape,h.output,h.size,fun k hk _=>h.block k hk⟩
theorem But.below {g B:Nat} {w w':World} (h:But g w w') (h1:B≤g) (h2:B≤w.heap.size):Below B w w':=⟨h.os,h.tape,h.output,h.size,fun k hk=>h.block k (by omega) (by omega)⟩
theorem But.after {g:Nat} {W w w':World} (h0:Below W.heap.size W w) (h1:W.heap.size≤g) (h:But g w w'):Below W.heap.size W w':=h0.trans (h.below h1 h0.size)
theorem But.row {g:Nat} {w w':World} (h:But g w w') {k:Nat} {o:Obj} (hk:w.heap[k]? =some o) (hg:k≠g):w'.heap[k]? =some o:=
 (h.block k (Array.getElem?_eq_some_iff.1 hk).1 hg).trans hk
theorem But.set {g:Nat} (w:World) (v:Value):But g w (w.setCell ⟨g,0,none⟩ v):=
 ⟨rfl,rfl,rfl,Nat.le_of_eq (by simp),fun k _ hk=>heap_setCell_other w _ k v hk⟩
def Flt (t:Slt) (u:Value):Prop:=t.kind=7→u=.float .f64 (floatOfInt .f64 (t.most:Int))
inductive MsgL (W:World) (S:Nat→Prop):Value→List Slt→Prop
 |mk (ao:Option Addr) (cap:Nat) (ts:List Slt) (us:List Value) (hl:ts.length≤16) (hc:ts.length≤cap)
  (h:∀i,i<ts.length→∃b off,ao=some ⟨b,off,none⟩∧b<W.heap.size∧S b∧W.rangeAt b (off+i*2) [.int .i64 (gs ts i).no,shp (gs ts i) (gvs us i)]∧Sok (gs ts i)∧Flt (gs ts i) (gvs us i))
  (hs:∀i,i<ts.length→nst (gs ts i)→MsgL W S (gvs us i) (gs ts i).sub):MsgL W S (.slice ao ts.length cap) ts
theorem MsgL.msg {W:World} {S:Nat→Prop} {v:Value} {ts:List Slt} (h:MsgL W S v ts):Msg W v ts:=by
 induction h with
 |mk ao cap ts us hl hc h hs ih=>
  refine .mk ao cap ts us hl hc (fun i hi=>?_) ih
  obtain⟨b,off,h1,h2,_,h4,h5,_⟩:=h i hi;exact⟨b,off,h1,h2,h4,h5⟩
theorem MsgL.form {W:World} {S:Nat→Prop} {v:Value} {ts:List Slt} (h:MsgL W S v ts):∃ao cap,v=.slice ao ts.length cap:=by
 cases h
 exact⟨_,_,rfl⟩
theorem range_same {W V:World} {b o:Nat} {cs:List Value} (h:W.rangeAt b o cs) (hb:V.heap[b]? =W.heap[b]?):V.rangeAt b o cs:=fun j v hv=>(World.cell?_of_block (a:=⟨b,o+j,none⟩) hb).trans (h j v hv)
theorem MsgL.keep {W V:World} {S T:Nat→Prop} {v:Value} {ts:List Slt} (h:MsgL W S v ts) (hs:W.heap.size≤V.heap.size) (hb:∀b,b<W.heap.size→S b→V.heap[b]? =W.heap[b]?∧T b):MsgL V T v ts:=by
 induction h with
 |mk ao cap ts us hl hc h _ ih=>
  refine .mk ao cap ts us hl hc (fun i hi=>?_) ih
  obtain⟨b,off,h1,h2,h3,h4,h5⟩:=h i hi
  exact⟨b,off,h1,by omega,(hb b h2 h3).2,range_same h4 (hb b h2 h3).1,h5⟩
def Lc (w:World) (g:Nat) (L:Int):Prop:=w.heap[g]? =some (.cells #[.int .i64 L] 132 (0,0))
def OutM (g:Nat) (w:World) (r:Int) (ts:List Slt) (e:Ending) (w':World):Prop:=
 But g w w'∧((0≤r∧∃v,e=.returned (.tuple #[v,.bool true])∧MsgL w' (fun b=>w.heap.size≤b) v ts∧Lc w' g r)∨(r<0∧e=.returned (.tuple #[nS,.bool false])))
def OutS (g:Nat) (w:World) (r:Int) (t:Slt) (e:Ending) (w':World):Prop:=
 But g w w'∧((0≤r∧∃u,e=.returned (.tuple #[shp t u,.bool true])∧Flt t u∧(nst t→MsgL w' (fun b=>w.heap.size≤b) u t.sub)∧Lc w' g r)∨(r<0∧∃v,e=.returned (.tuple #[v,.bool false])))
def MsgC (W:World) (u:Value) (sub:List Slt):Prop:=∀(w:World) (g:Nat) (deep L:Int),Below W.heap.size W w→W.heap.size≤g→Lc w g L→1≤deep→deep≤7→0≤L→L≤256→
 Calls Tryz.prog 67 #[.pointer (some ⟨g,0,none⟩),u,.int .i64 deep] w (OutM g w (pm sub deep L) sub)
end Go.Proofs.YtmmlkfkpblokiaaGreatDoor
