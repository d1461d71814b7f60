import Derived.Test.YtmmlkfkpblokiaaGreatDoorQzUm
set_option maxRecDepth 100000
set_option maxHeartbeats 16000000
namespace Go.Proofs.YtmmlkfkpblokiaaGreatDoor
open Go Go.RowKit Go.Sort
structure Fd where
 no:Int
 ty:Int
 num:Nat
 dat:List B
def fx:Nat→Nat→List B
 |0,_=>[]
 |k+1,n=>BitVec.ofNat 8 (n%256)::fx k (n/256)
theorem fx_len:∀(k n:Nat),(fx k n).length=k
 |0,_=>rfl
 |k+1,n=>by rw[fx,List.length_cons,fx_len k]
def fxv:List B→Nat
 |[]=>0
 |x::l=>x.toNat+256*fxv l
theorem fxv_lt:∀l:List B,fxv l<256^l.length
 |[]=>by decide
 |x::l=>by
  have:=fxv_lt l;have:=x.isLt;rw[fxv,List.length_cons,Nat.pow_succ];omega
theorem fx_fxv:∀l:List B,fx l.length (fxv l)=l
 |[]=>rfl
 |x::l=>by
  have hx:=x.isLt
  rw[List.length_cons,fx,fxv,show(x.toNat+256*fxv l)%256=x.toNat by omega,show(x.toNat+256*fxv l)/256=fxv l by omega,fx_fxv l,BitVec.ofNat_toNat,BitVec.setWidth_eq]
def known (t:Int):Prop:=t=0∨t=1∨t=2∨t=5
instance (t:Int):Decidable (known t):=by unfold known;exact inferInstance
def fits (f:Fd):Prop:=if f.ty=2 then f.num=0 else f.dat=[]∧(f.ty=5→f.num≤4294967295)
instance (f:Fd):Decidable (fits f):=by unfold fits;exact inferInstance
def fhd (f:Fd):Nat:=8*f.no.toNat+f.ty.toNat
def fvl (f:Fd):List B:=if f.ty=0 then en f.num else if f.ty=1 then fx 8 f.num else if f.ty=5 then fx 4 f.num else itm f.dat
def fby (f:Fd):List B:=en (fhd f)++fvl f
def hck (f:Fd) (last:Int):Int:=if f.no≤last∨536870911<f.no then 71 else if known f.ty then 0 else 72
def fck (f:Fd) (last:Int):Int:=if hck f last≠0 then hck f last else if fits f then 0 else 1
def ech:List Fd→Int→Int
 |[],_=>0
 |f::l,last=>if fck f last≠0 then fck f last else ech l f.no
def ebs:List Fd→List B
 |[]=>[]
 |f::l=>fby f++ebs l
theorem ebs_app (a b:List Fd):ebs (a++b)=ebs a++ebs b:=by
 induction a with
 |nil=>rfl
 |cons p l ih=>rw[List.cons_append,ebs,ebs,ih,List.append_assoc]
theorem ebs_one (f:Fd):ebs [f]=fby f:=by rw[ebs,ebs,List.append_nil]
def eer (fs:List Fd):Int:=if 64<fs.length then 2 else if ech fs 0≠0 then ech fs 0 else if 4194304<(ebs fs).length then 2 else 0
def eout (fs:List Fd):List B:=if eer fs=0 then ebs fs else[]
def f0:Fd:=⟨0,0,0,[]⟩
def gf (fs:List Fd) (i:Nat):Fd:=fs.getD i f0
theorem ftake_snoc (fs:List Fd) (k:Nat) (h:k<fs.length):fs.take (k+1)=fs.take k++[gf fs k]:=by
 rw[List.take_succ_eq_append_getElem h,gf,List.getD_eq_getElem?_getD,List.getElem?_eq_getElem h];rfl
theorem ebs_snoc (fs:List Fd) (k:Nat) (h:k<fs.length):ebs (fs.take (k+1))=ebs (fs.take k)++fby (gf fs k):=by
 rw[ftake_snoc fs k h,ebs_app,ebs_one]
theorem ebs_mono (fs:List Fd) (k:Nat):(ebs (fs.take k)).length≤(ebs fs).length:=by
 conv=>rhs;rw[←List.take_append_drop k fs,ebs_app,List.length_append]
 omega
def lst (fs:List Fd) (k:Nat):Int:=if k=0 then 0 else(gf fs (k-1)).no
theorem fdrop_at (fs:List Fd) (j:Nat) (h:j<fs.length):fs.drop j=gf fs j::fs.drop (j+1):=by
 rw[List.drop_eq_getElem_cons h,gf,List.getD_eq_getElem?_getD,List.getElem?_eq_getElem h];rfl
theorem lst_succ (fs:List Fd) (k:Nat):lst fs (k+1)=(gf fs k).no:=by rw[lst,if_neg (by omega),Nat.add_sub_cancel]
theorem fck_ok {f:Fd} {last:Int} (h:fck f last=0):last<f.no∧f.no≤536870911∧known f.ty∧fits f:=by
 unfold fck hck at h
 by_cases h1:f.no≤last∨536870911<f.no
 ·rw[if_pos h1] at h;simp at h
 ·rw[if_neg h1] at h
  by_cases h2:known f.ty
  ·rw[if_pos h2] at h
   by_cases h3:fits f
   ·exact⟨by omega,by omega,h2,h3⟩
   ·rw[if_neg h3] at h;simp at h
  ·rw[if_neg h2] at h;simp at h
theorem known_lt {t:Int} (h:known t):0≤t∧t<8:=by unfold known at h;omega
def frow (f:Fd) (u:Value):List Value:=[.int .i64 f.no,.int .i64 f.ty,.int .u64 (f.num:Int),u]
def Fok (f:Fd):Prop:=f.num<18446744073709551616∧f.dat.length≤140737488351232∧-9223372036854775808≤f.no∧f.no≤9223372036854775807
def Fds (W:World) (v:Value) (fs:List Fd):Prop:=∃ao cap,v=.slice ao fs.length cap∧fs.length≤2932031007317∧fs.length≤cap∧(ao=none→cap=0)∧∀i,i<fs.length→∃b off u,ao=some ⟨b,off,none⟩∧b<W.heap.size∧W.rangeAt b (off+i*4) (frow (gf fs i) u)∧BysB W u (gf fs i).dat∧Fok (gf fs i)
theorem range_keep {W V:World} {b o:Nat} {cs:List Value} (h:W.rangeAt b o cs) (hb:Below W.heap.size W V) (hlt:b<W.heap.size):V.rangeAt b o cs:=fun j v hv=>(hb.cell (p:=⟨b,o+j,none⟩) hlt).trans (h j v hv)
theorem range_keep2 {w W V:World} {b o:Nat} {cs:List Value} (h:W.rangeAt b o cs) (hb:Below w.heap.size W V) (hlt:b<w.heap.size):V.rangeAt b o cs:=fun j v hv=>(hb.cell (p:=⟨b,o+j,none⟩) hlt).trans (h j v hv)
theorem Fds.keep {W V:World} {v:Value} {fs:List Fd} (h:Fds W v fs) (hb:Below W.heap.size W V):Fds V v fs:=by
 obtain⟨ao,cap,e,hl,hlc,hn,hc⟩:=h
 refine⟨ao,cap,e,hl,hlc,hn,fun i hi=>?_⟩
 obtain⟨b,off,u,e1,h1,h2,h3,h4⟩:=hc i hi;exact⟨b,off,u,e1,Nat.lt_of_lt_of_le h1 hb.size,range_keep h2 hb h1,h3.keep hb,h4⟩
theorem Fds.form {W:World} {v:Value} {fs:List Fd} (h:Fds W v fs):∃ao cap,v=.slice ao fs.length cap:=by
 obtain⟨ao,cap,e,_⟩:=h;exact⟨ao,cap,e⟩
theorem Fds.len {W:World} {v:Value} {fs:List Fd} (h:Fds W v fs):fs.length≤2932031007317:=by
 obtain⟨_,_,_,hl,_⟩:=h;exact hl
theorem Fds.ok {W:World} {v:Value} {fs:List Fd} (h:Fds W v fs) {i:Nat} (hi:i<fs.length):Fok (gf fs i):=by
 obtain⟨_,_,_,_,_,_,hc⟩:=h;obtain⟨_,_,_,_,_,_,_,h4⟩:=hc i hi;exact h4
theorem Fds.at {W:World} {ao:Option Addr} {l cap:Nat} {fs:List Fd} (h:Fds W (.slice ao l cap) fs) {i:Nat} (hi:i<fs.length):∃b off u uc,ao=some ⟨b,off,none⟩∧b<W.heap.size∧W.rangeAt b (off+i*4) (frow (gf fs i) (.slice u (gf fs i).dat.length uc))∧BysB W (.slice u (gf fs i).dat.length uc) (gf fs i).dat∧Fok (gf fs i):=by
 obtain⟨ao',cap',e,_,_,_,hc⟩:=h
 cases e
 obtain⟨b,off,u,e1,h1,h2,h3,h4⟩:=hc i hi;obtain⟨uo,uc,rfl⟩:=h3.form;exact⟨b,off,uo,uc,e1,h1,h2,h3,h4⟩
theorem infoF:(Tryz.prog.info? 118).map (·.size)=some 4:=by kernel_rfl
theorem zFd (W:World):(Instr.alloc 118 true (.tuple #[])).run Tryz.prog W=.ok (.pointer (some ⟨W.heap.size,0,none⟩)) (W.alloc (.cells #[.int .i64 0,.int .i64 0,.int .u64 0,nS] 118)):=by kernel_rfl
theorem wpList_load_fd {ops:Array Oper} {rest:List Oper} {o:Oper} {a:Act} {w:World} {Q:Exit→Act→World→Prop} (hw:Region.wanted o (yielded ops a.tmps)=true) (x:Operand) (ho:o.op=.load 118 x)
 (g off:Nat) (hx:a.eval x=.pointer (some ⟨g,off,none⟩)) (c0 c1 c2 c3:Value) (hr:w.rangeAt g off [c0,c1,c2,c3])
 (h:wpList Tryz.prog ops Q rest (a.put o.dst (.agg #[c0,c1,c2,c3])) w):wpList Tryz.prog ops Q (o::rest) a w:=
 BigFrame.wpList_want hw fun _ hK=>wp_load_mid 118 x ho g off hx [c0,c1,c2,c3] _ hr Tryz.underlying118 rfl infoF (hK _ _ h)
end Go.Proofs.YtmmlkfkpblokiaaGreatDoor
namespace Go.Proofs.YtmmlkfkpblokiaaGreatDoor
open Go Go.RowKit Go.Sort
attribute [local go_sem] setCell_drewN alloc_drewN
def Frm (w w':World) (v:Value):Prop:=∀k,k<w.heap.size→v.ownBlock≠some k→w'.heap[k]? =w.heap[k]?
def Nx (w:World) (v v':Value):Prop:=v'.ownBlock=v.ownBlock∨∃k,v'.ownBlock=some k∧w.heap.size≤k
theorem Frm.refl (w:World) (v:Value):Frm w w v:=fun _ _ _=>rfl
theorem Nx.refl (w:World) (v:Value):Nx w v v:=.inl rfl
theorem Nx.trans {w W:World} {v s s':Value} (h:Nx w v s) (hs:w.heap.size≤W.heap.size) (h2:Nx W s s'):Nx w v s':=by
 rcases h2 with e|⟨k,e,hk⟩
 ·rcases h with e2|⟨k,e2,hk⟩
  ·exact .inl (e.trans e2)
  ·exact .inr ⟨k,e.trans e2,hk⟩
 ·exact .inr ⟨k,e,by omega⟩
theorem Nx.unalloc {W:World} {o:Obj} {s s':Value} (h:Nx (W.alloc o) s s'):Nx W s s':=by
 rcases h with e|⟨k,e,hk⟩
 ·exact .inl e
 ·exact .inr ⟨k,e,by rw[size_alloc1] at hk;omega⟩
theorem Nx.ne {w:World} {v s:Value} (h:Nx w v s) {k:Nat} (hk:k<w.heap.size) (hv:v.ownBlock≠some k):s.ownBlock≠some k:=by
 rcases h with e|⟨k',e,hk'⟩
 ·rw[e];exact hv
 ·rw[e];intro e2;cases e2;omega
theorem Frm.step {w W V:World} {v s:Value} (h:Frm w W v) (hs:w.heap.size≤W.heap.size) (hn:Nx w v s) (hg:W.grownBy V s.ownBlock):Frm w V v:=fun k hk hv=>
 (hg.block k (by omega) (fun e=>hn.ne hk hv e.symm)).trans (h k hk hv)
theorem Frm.alloc {w W:World} {v:Value} (h:Frm w W v) (hs:w.heap.size≤W.heap.size) (o:Obj):Frm w (W.alloc o) v:=fun k hk hv=>by
 rw[←h k hk hv]
 show(W.heap.push o)[k]? =_
 rw[Array.getElem?_push,if_neg (by omega)]
theorem Frm.trans {w W V:World} {v s:Value} (h:Frm w W v) (hs:w.heap.size≤W.heap.size) (hn:Nx w v s) (h2:Frm W V s):Frm w V v:=fun k hk hv=>(h2 k (by omega) (hn.ne hk hv)).trans (h k hk hv)
theorem Frm.below {w W V:World} {v:Value} (h:Frm w W v) (hs:w.heap.size≤W.heap.size) (hb:Below W.heap.size W V):Frm w V v:=fun k hk hv=>(hb.block k (by omega)).trans (h k hk hv)
theorem Frm.cell {w W:World} {v:Value} (h:Frm w W v) {b o:Nat} (hb:b<w.heap.size) (hv:v.ownBlock≠some b):W.cell? ⟨b,o,none⟩=w.cell? ⟨b,o,none⟩:=World.cell?_of_block (a:=⟨b,o,none⟩) (h b hb hv)
theorem Frm.bys {w W:World} {v u:Value} {d:List B} (h:Frm w W v) (hs:w.heap.size≤W.heap.size) (hu:BysB w u d) (hne:∀a l c,u=.slice (some a) l c→0<d.length→v.ownBlock≠some a.block):BysB W u d:=by
 obtain⟨⟨ao,cap,rfl,hl,hc,hz⟩,h2,h3⟩:=hu
 refine⟨⟨ao,cap,rfl,hl,fun j hj=>?_,hz⟩,h2,h3⟩
 obtain⟨b,off,e,hb,hcl⟩:=hc j hj;subst e
 exact⟨b,off,rfl,by omega,(h.cell hb (hne _ _ _ rfl (by rw[bl_len] at hj;omega))).trans hcl⟩
theorem wp_append_nx {P:Program} {w:World} {o:Oper} {a:Act} {K:Act→World→Prop} {Q:Exit→Act→World→Prop} (s x:Operand) (t:TypeId)
 (ho:o.op=.call {callee:=.builtin .append,args:=#[s,x],argTypes:=#[t,t]})
 (base:Nat) (e:TypeId) (i:TypeInfo) (z:Value) (size bytes:Nat) (ht:P.underlying t=some (.slice e)) (hi:P.info? e=some i) (hz:i.zero=some z)
 (hsize:i.size=size) (hby:i.bytes=bytes) (hzs:z.cells.size=size) (hsz:0<size)
 (v:Value) (n:Nat) (xs:List Value) (hs:a.eval s=v) (hown:w.ownsRow base e size v n xs)
 (ad:Addr) (m c:Nat) (news:List Value) (hx:a.eval x=.slice (some ad) m c) (hl:news.length=m*size) (hnews:∀j u,news[j]? =some u→w.cell? (ad.add j)=some u) (h1:∀u∈news,u.oneCell'=true)
 (h63:n+m≤maxLen) (hbytes:(n+m)*bytes≤140737488355328) (hbase:base≤w.heap.size)
 (h:∀v' w',w'.ownsRow base e size v' (n+m) (xs++news)→w.grownBy w' v.ownBlock→Nx w v v'→K (a.put o.dst v') w'):o.wp P a w K Q:=by
 obtain⟨v',w',hr,h2,h3,h4⟩:=run_append_own (P:=P) w base t o.type e i z size bytes ht hi hz hsize hby hzs hsz _ n xs hown ad m c news hl hnews h1 h63 hbytes hbase
 have key:Nx w v v':=by
  rcases hown.2 with⟨rfl,hn0⟩|⟨g1,cap1,cur,rfl,hbg,hg,hnc,hcm,hcs,htake⟩
  ·have hown2:w.ownsRow w.heap.size e size nS n xs:=⟨hown.1,.inl ⟨rfl,hn0⟩⟩
   obtain⟨v2,w2,hr2,g2,_,g4⟩:=run_append_own (P:=P) w w.heap.size t o.type e i z size bytes ht hi hz hsize hby hzs hsz _ n xs hown2 ad m c news hl hnews h1 h63 hbytes (Nat.le_refl _)
   have he:=hr.symm.trans hr2
   injection he with e1 e2
   subst e1
   rcases g2.2 with⟨hv,_⟩|⟨g,cap,_,hv,hbg,_⟩
   ·exact .inl (by rw[hv])
   ·exact .inr ⟨g,by rw[hv];rfl,hbg⟩
  ·by_cases hroom:n+m≤cap1
   ·have hr2:=run_append_room (P:=P) w t o.type e i ht hi g1 n cap1 cur hg ad m c news (by rw[hsize];exact hl) hnews h1 hroom (by rw[hsize,hl,hcs,←Nat.add_mul];exact Nat.mul_le_mul_right _ hroom)
    have he:=hr.symm.trans hr2
    injection he with e1 e2
    exact .inl (by rw[e1];rfl)
   ·have holds:∀j u,xs[j]? =some u→w.cell? ((⟨g1,0,none⟩:Addr).add j)=some u:=hown.cells (g:=g1) rfl
    have hr2:=run_append_grow (P:=P) w t o.type e i z ht hi hz ⟨g1,0,none⟩ n cap1 xs (by rw[hsize];exact hown.1) holds ad m c news (by rw[hsize];exact hl) hnews (by omega) (by simp only[maxLen] at h63;omega) (growslice_fits (by omega) (by rw[hby];exact hbytes))
    have he:=hr.symm.trans hr2
    injection he with e1 e2
    exact .inr ⟨w.heap.size,by rw[e1];rfl,Nat.le_refl _⟩
 unfold Oper.wp execOp;simp only[ho,resolve,invoke,builtin,Sem.run_bind,Sem.run_pure,Result.andThen_ok,List.map_toArray,List.map_cons,List.map_nil,hs,hx,hr];exact h v' w' h2 h3 key
theorem wpList_append_N {w:World} {ops:Array Oper} {rest:List Oper} {o:Oper} {a:Act} {Q:Exit→Act→World→Prop} (hgd:o.guard=none) (s x:Operand) (ho:o.op=.call {callee:=.builtin .append,args:=#[s,x],argTypes:=#[24,24]}) (base:Nat) (v:Value) (d:List B) (hs:a.eval s=v) (hO:Own w base v d) (y:Value) (e:List B) (hx:a.eval x=y) (hE:BysB w y e) (hlen:d.length+e.length≤140737488355328) (hbase:base≤w.heap.size)
 (h:∀v' w',Own w' base v' (d++e)→w.grownBy w' v.ownBlock→Nx w v v'→wpList Tryz.prog ops Q rest (a.put o.dst v') w'):wpList Tryz.prog ops Q (o::rest) a w:=by
 refine wpList_plain hgd fun _ hK=>?_
 obtain⟨i0,hi,hz0,hz1,hz2⟩:=info8;obtain⟨⟨ao,cap,rfl,_,hc,_⟩,_,hnil⟩:=hE;rw[bl_len] at hx hnil hc
 have hfin:∀v' w',w'.ownsRow base 5 1 v' (d.length+e.length) ((bl d).map (Value.int .u8)++(bl e).map (Value.int .u8))→w.grownBy w' v.ownBlock→Nx w v v'→wpList Tryz.prog ops Q rest (a.put o.dst v') w':=fun v' w' h1 h2 h3=>h v' w' (by
  unfold Own;rw[List.length_append,bl,List.map_append,List.map_append]
  exact h1) h2 h3
 cases ao with
 |some ad=>
  refine wp_append_nx s x 24 ho base 5 i0 (.int .u8 0) 1 1 Tryz.underlying24 hi hz0 hz1 hz2 rfl (by decide) v d.length ((bl d).map (Value.int .u8)) hs hO ad e.length cap ((bl e).map (Value.int .u8)) hx (by rw[List.length_map,bl_len,Nat.mul_one]) (fun j u hu=>?_) (ints_one .u8 _) (by unfold maxLen;omega) (by omega) hbase (fun v' w' h2 h3 h4=>hK _ _ (hfin v' w' h2 h3 h4))
  rw[List.getElem?_map] at hu;obtain⟨z,hz,rfl⟩:=Option.map_eq_some_iff.1 hu
  have hj:j<e.length:=by have:=(List.getElem?_eq_some_iff.1 hz).1;rwa [bl_len] at this
  obtain⟨b,off,he,_,hcell⟩:=hc j hj;obtain rfl:=Option.some.inj he;rw[addr_add,hcell,List.getD_eq_getElem?_getD,hz];rfl
 |none=>
  have hn0:e.length=0:=Nat.eq_zero_of_not_pos (fun h0=>by obtain⟨b,off,he,_⟩:=hc 0 h0;cases he)
  obtain rfl:=hnil _ _ _ rfl rfl;have he0:e=[]:=List.length_eq_zero_iff.1 hn0;subst he0;have hrun:=run_append_owned_none (P:=Tryz.prog) w base 24 o.type 5 i0 1 Tryz.underlying24 hi _ d.length _ hO;unfold Oper.wp
  simp[execOp,ho,resolve,invoke,builtin,hs,hx,hrun,Result.andThen]
  have h_:=hfin v w (by simpa[bl,Own] using hO) (World.grownBy.refl _ _) (Nx.refl _ _)
  exact hK _ _ h_
theorem a_addNumberN (d:List B) (n:Nat) (hn:n<18446744073709551616) (base:Nat) (w:World) (v:Value) (hO:Own w base v d) (hb:base≤w.heap.size) (hl:d.length+10≤140737488355328):Calls Tryz.prog 104 #[v,.int .u64 (n:Int)] w fun e w'=>∃u,e=.returned u∧(Own w' base u (d++en n)∧Frm w w' v∧Nx w v u)∧Below base w w':=by
 obtain⟨ao,ac,hV⟩:=slen_own hO;subst hV;obtain⟨V0,hV0⟩:∃V0,Value.slice ao d.length ac=V0:=⟨_,rfl⟩;have hten:=en_ten hn
 go_enter Tryz.func104,Tryz.ntmps104
 go_wp2
 go_loopw [0,1] (fun s m wr=>∃(k:Nat) (c:List B) (ao:Option Addr) (ac:Nat),m=.int .u64 (k:Int)∧k≤n∧en n=c++en k∧s=.slice ao (d++c).length ac∧Own wr base (.slice ao (d++c).length ac) (d++c)∧(Frm w wr V0∧Nx w V0 (.slice ao (d++c).length ac))∧Below base w wr) (fun _ m _=>(intOf m).toNat)
 case atStart=>exact⟨n,[],ao,ac,rfl,Nat.le_refl _,rfl,by simp,by simpa using hO,⟨Frm.refl _ _,by simpa[hV0] using Nx.refl w V0⟩,Below.refl _ _⟩
 case round=>
  clear hO;obtain⟨k,c,ao,ac,rfl,hkn,he,rfl,hO,⟨hF,hN⟩,hw⟩:=hrel;have hws:=hw.size
  have hcl:(d++c).length+(en k).length≤d.length+10:=by
   have:=congrArg List.length he
   rw[List.length_append] at *
   omega
  by_cases h:128≤k
  ·have hd:decide ((k:Int)≥128)=true:=by simp;omega
   have hek:=en_hi (n:=k) (by omega)
   rw[hek,List.length_cons] at hcl;rw[hek] at he;replace he:=hide he
   generalize hL:d++c=L at *
   go_wp2_with (at_builtin;refine wpList_append_N rfl (.tmp 9) (.tmp 13) rfl base _ L rfl (own_alloc hO _) _ [BitVec.ofNat 8 (k%128+128)] rfl ?hE (by simp only[List.length_singleton];omega) (by rw[size_alloc1];omega) ?_)
   case hE=>
    rw[by_hi];exact bys_one _ _
   intro v2 w2 hO2 hgr hnx;replace hnx:=hnx.unalloc
   have hF2:=(hF.alloc hws _).step (by rw[size_alloc1];omega) hN hgr
   have hN2:=hN.trans hws hnx;clear hF hN hnx
   have hw2:Below base w w2:=(hw.alloc (by omega) _).grown hgr (by rw[size_alloc1];omega) (own_low hO)
   obtain⟨ao2,ac2,rfl⟩:=slen_own hO2;clear hgr hO hw hek
   go_wp2
   refine⟨⟨k/128,c++[BitVec.ofNat 8 (k%128+128)],ao2,ac2,by congr 1,by omega,by rw[he.out];simp,by rw[←List.append_assoc,hL],by rw[←List.append_assoc,hL];exact hO2,⟨hF2,by rw[←List.append_assoc,hL];exact hN2⟩,hw2⟩,?_⟩
   simp[intOf];omega
  ·have hd:decide ((k:Int)≥128)=false:=by simp;omega
   have hek:=en_lo (n:=k) (by omega)
   rw[hek,List.length_singleton] at hcl;rw[hek] at he;replace he:=hide he
   generalize hL:d++c=L at *
   go_wp2_with (at_builtin;refine wpList_append_N rfl (.tmp 15) (.tmp 18) rfl base _ L rfl (own_alloc hO _) _ [BitVec.ofNat 8 k] rfl ?hE (by simp only[List.length_singleton];omega) (by rw[size_alloc1];omega) ?_)
   case hE=>
    first|rw[by_lo (by omega)]|rw[by_lo' (by omega)]
    exact bys_one _ _
   intro v2 w2 hO2 hgr hnx;replace hnx:=hnx.unalloc
   have hF2:=(hF.alloc hws _).step (by rw[size_alloc1];omega) hN hgr
   have hN2:=hN.trans hws hnx;clear hF hN hnx
   have hw2:Below base w w2:=(hw.alloc (by omega) _).grown hgr (by rw[size_alloc1];omega) (own_low hO)
   obtain⟨ao2,ac2,rfl⟩:=slen_own hO2;clear hgr hO hw hek
   go_wp2
   go_ret
   exact⟨_,rfl,⟨by rw[he.out,←List.append_assoc,hL];exact hO2,by rw[hV0];exact hF2,by rw[hV0];exact hN2⟩,hw2⟩
theorem fx_snoc:∀(k n:Nat),fx (k+1) n=fx k n++[BitVec.ofNat 8 (n/256^k%256)]
 |0,n=>by rw[fx,fx,fx,Nat.pow_zero,Nat.div_one];rfl
 |k+1,n=>by
  rw[fx,fx_snoc k (n/256),fx,List.cons_append,Nat.div_div_eq_div_mul,Nat.pow_succ,Nat.mul_comm 256]
theorem by_mod (n:Nat):(n:Int)%256=bv (BitVec.ofNat 8 (n%256)):=by
 rw[bv,BitVec.toNat_ofNat];omega
theorem by_shr (n j:Nat):(n:Int)/2^(8*j)%256=bv (BitVec.ofNat 8 (n/256^j%256)):=by
 have h:(2:Int)^(8*j)=((256^j:Nat):Int):=by
  rw[show(256:Nat)=2^8 from rfl,←Nat.pow_mul]
  simp
 rw[h,←by_mod,←Int.natCast_ediv]
theorem a_addFixedN (d:List B) (n k:Nat) (hk:k≤8) (base:Nat) (w:World) (v:Value) (hO:Own w base v d) (hb:base≤w.heap.size) (hl:d.length+10≤140737488355328):Calls Tryz.prog 105 #[v,.int .u64 (n:Int),.int .i64 (k:Int)] w fun e w'=>∃u,e=.returned u∧(Own w' base u (d++fx k n)∧Frm w w' v∧Nx w v u)∧Below base w w':=by
 obtain⟨ao,ac,hV⟩:=slen_own hO;subst hV;obtain⟨V0,hV0⟩:∃V0,Value.slice ao d.length ac=V0:=⟨_,rfl⟩
 go_enter Tryz.func105,Tryz.ntmps105
 go_wp2_with (fail)
 go_loopw [0,9] (fun s i wr=>∃(j:Nat) (ao:Option Addr) (ac:Nat),j≤k∧i=.int .i64 (j:Int)∧s=.slice ao (d.length+j) ac∧Own wr base (.slice ao (d.length+j) ac) (d++fx j n)∧(Frm w wr V0∧Nx w V0 (.slice ao (d.length+j) ac))∧Below base w wr) (fun _ i _=>k-(intOf i).toNat)
 case atStart=>exact⟨0,ao,ac,by omega,rfl,rfl,by rw[fx,List.append_nil];exact hO,⟨Frm.refl _ _,by rw[Nat.add_zero,hV0];exact Nx.refl w V0⟩,Below.refl _ _⟩
 case round=>
  clear hO;obtain⟨j,ao,ac,hj,rfl,rfl,hO,⟨hF,hN⟩,hw⟩:=hrel;have hws:=hw.size
  by_cases hlt:j<k
  ·have hd:decide ((j:Int)<(k:Int))=true:=by simp;omega
   have hsn:Hid (d++fx (j+1) n=(d++fx j n)++[BitVec.ofNat 8 (n/256^j%256)]):=hide (by rw[fx_snoc,List.append_assoc])
   have hll:(d++fx j n).length=d.length+j:=by rw[List.length_append,fx_len]
   go_wp2_with (at_builtin;suffices h9:True∧_ from h9.2)
   refine⟨trivial,?_⟩
   refine wpList_append_N rfl (.tmp 12) (.tmp 18) rfl base _ (d++fx j n) rfl (own_alloc hO _) _ [BitVec.ofNat 8 (n/256^j%256)] rfl (by rw[by_shr];exact bys_one _ _) (by simp only[List.length_singleton];omega) (by rw[size_alloc1];omega) ?_
   intro v2 w2 hO2 hgr hnx;replace hnx:=hnx.unalloc
   have hF2:=(hF.alloc hws _).step (by rw[size_alloc1];omega) hN hgr
   have hN2:=hN.trans hws hnx;clear hF hN hnx
   have hw2:Below base w w2:=(hw.alloc (by omega) _).grown hgr (by rw[size_alloc1];omega) (own_low hO)
   rw[←hsn.out] at hO2;obtain⟨ao2,ac2,hv2⟩:=slen_own hO2
   have hl2:(d++fx (j+1) n).length=d.length+(j+1):=by rw[List.length_append,fx_len]
   rw[hl2] at hv2;subst hv2;clear hgr hO hw hll hl2
   go_wp2_with (fail)
   refine⟨⟨j+1,ao2,ac2,by omega,by go_num,rfl,hO2,⟨hF2,hN2⟩,hw2⟩,?_⟩
   simp[intOf];omega
  ·obtain rfl:j=k:=by omega
   have hd:decide ((j:Int)<(j:Int))=false:=by simp
   go_wp2_with (fail)
   go_ret
   exact⟨_,rfl,⟨hO,by rw[hV0];exact hF,by rw[hV0];exact hN⟩,hw⟩
theorem a_addItemN (d p:List B) (base:Nat) (w:World) (v u:Value) (hO:Own w base v d) (hu:BysB w u p) (hbl:∀V,Frm w V v→w.heap.size≤V.heap.size→BysB V u p) (hb:base≤w.heap.size) (hl:d.length+(itm p).length≤140737488355000):Calls Tryz.prog 106 #[v,u] w fun e w'=>∃x,e=.returned x∧(Own w' base x (d++itm p)∧Frm w w' v∧Nx w v x)∧Below base w w':=by
 have hpl:=hu.2.1;have hlen:=itm_len p;obtain⟨uo,uc,rfl⟩:=hu.form
 have cN:=a_addNumberN d p.length (by omega) base w v hO hb (by have:=en_pos p.length;have:=en_ten (n:=p.length) (by omega);omega)
 go_enter Tryz.func106,Tryz.ntmps106
 go_wp2_with (fail)
 refine cN.mono ?_;rintro e_ w1 ⟨x,rfl,⟨hx,hF,hN⟩,hb1⟩;clear cN;have hE:=hbl w1 hF hb1.size;have hs1:=hb1.size
 have hx2:(d++en p.length).length+p.length≤140737488355328:=by rw[List.length_append];omega
 have hfin:(d++en p.length)++p=d++itm p:=by rw[itm,List.append_assoc]
 generalize hD:d++en p.length=D at *
 go_wp2_with (at_builtin;refine wpList_append_N rfl _ _ rfl base _ D rfl hx _ p rfl hE hx2 (by omega) ?_)
 intro v2 w2 hO2 hgr hnx;have hF2:=hF.step hs1 hN hgr;have hN2:=hN.trans hs1 hnx;clear hF hN hnx
 have hw2:Below base w w2:=hb1.grown hgr (by omega) (own_low hx)
 clear hgr hx hb1
 go_wp2
 go_ret;exact⟨v2,rfl,⟨hO2,hF2,hN2⟩,hw2⟩
theorem infoPl:∃i,Tryz.prog.info? 138=some i∧i.zero=some (.agg #[.int .i64 0,.nilIface])∧i.size=2∧i.bytes=24:=⟨_,rfl,rfl,rfl,rfl⟩
def pc:List Slt→List Value→List Value
 |t::ts,u::us=>.int .i64 t.no::shp t u::pc ts us
 |_,_=>[]
theorem pc_snoc:∀(ts:List Slt) (us:List Value) (t:Slt) (u:Value),ts.length=us.length→pc (ts++[t]) (us++[u])=pc ts us++[.int .i64 t.no,shp t u]
 |[],[],_,_,_=>rfl
 |[],_::_,_,_,h=>by simp at h
 |_::_,[],_,_,h=>by simp at h
 |t::ts,u::us,t',u',h=>by
  have:=pc_snoc ts us t' u' (by simpa using h)
  simp only[List.cons_append,pc,this]
theorem pc_at:∀(ts:List Slt) (us:List Value) (i:Nat),ts.length=us.length→i<ts.length→(pc ts us)[i*2]? =some (.int .i64 (gs ts i).no)∧(pc ts us)[i*2+1]? =some (shp (gs ts i) (gvs us i))
 |[],_,_,_,h=>by simp at h
 |_::_,[],_,h,_=>by simp at h
 |t::ts,u::us,0,_,_=>⟨rfl,rfl⟩
 |t::ts,u::us,i+1,h,hi=>by
  have:=pc_at ts us i (by simpa using h) (by simpa using hi)
  rw[pc,show(i+1)*2=i*2+1+1 by omega]
  simp only[List.getElem?_cons_succ];exact this
theorem gvs_low (vs:List Value) (x:Value) (i:Nat) (h:i<vs.length):gvs (vs++[x]) i=gvs vs i:=by
 unfold gvs;rw[List.getD_eq_getElem?_getD,List.getD_eq_getElem?_getD,List.getElem?_append_left h]
theorem gvs_top (vs:List Value) (x:Value) (i:Nat) (h:vs.length=i):gvs (vs++[x]) i=x:=by
 subst h;unfold gvs;rw[List.getD_eq_getElem?_getD,List.getElem?_append_right (Nat.le_refl _),Nat.sub_self];rfl
theorem shp_iface (t:Slt) (u:Value):∃T c,shp t u=.iface T c:=by
 unfold shp
 repeat' split
 all_goals exact⟨_,_,rfl⟩
theorem own_but {w w':World} {base size n:Nat} {e:TypeId} {v:Value} {xs:List Value} (h:w.ownsRow base e size v n xs) (hb:∀k,v.ownBlock=some k→w'.heap[k]? =w.heap[k]?):w'.ownsRow base e size v n xs:=by
 refine⟨h.1,?_⟩
 rcases h.2 with x|⟨g,cap,cur,rfl,h1,h2,h3⟩
 ·exact .inl x
 ·exact .inr ⟨g,cap,cur,rfl,h1,(hb g rfl).trans h2,h3⟩
theorem add_off (g j:Nat):(⟨g,0,none⟩:Addr).add j=⟨g,j,none⟩:=by
 unfold Addr.add
 split<;>simp_all
theorem own_lt {w:World} {base size n:Nat} {e:TypeId} {v:Value} {xs:List Value} (h:w.ownsRow base e size v n xs):∀k,v.ownBlock=some k→base≤k∧k<w.heap.size:=by
 intro k hk
 rcases h.2 with⟨rfl,_⟩|⟨g,cap,cur,rfl,h1,h2,h3⟩
 ·cases hk
 ·cases hk;exact⟨h1,(Array.getElem?_eq_some_iff.1 h2).1⟩
theorem own_slice {w:World} {base size n:Nat} {e:TypeId} {v:Value} {xs:List Value} (h:w.ownsRow base e size v n xs):∃ao cap,v=.slice ao n cap:=by
 rcases h.2 with⟨rfl,rfl⟩|⟨g,cap,cur,rfl,h1,h2,h3⟩
 ·exact⟨_,_,rfl⟩
 ·exact⟨_,_,rfl⟩
theorem msg_of {w:World} {base:Nat} {v:Value} {ts:List Slt} {us:List Value} (hO:w.ownsRow base 138 2 v ts.length (pc ts us)) (hl:ts.length=us.length) (h16:ts.length≤16) (hok:∀i,i<ts.length→Sok (gs ts i)) (hfl:∀i,i<ts.length→Flt (gs ts i) (gvs us i)) (hs:∀i,i<ts.length→nst (gs ts i)→MsgL w (fun b=>base≤b) (gvs us i) (gs ts i).sub):MsgL w (fun b=>base≤b) v ts:=by
 rcases hO.2 with⟨rfl,h0⟩|⟨g,cap,cur,rfl,h1,h2,h3,_⟩
 ·have e:ts=[]:=List.length_eq_zero_iff.1 h0
  subst e
  exact .mk none 0 [] us (by simp) (by simp) (fun i hi=>by simp at hi) (fun i hi=>by simp at hi)
 ·refine .mk (some ⟨g,0,none⟩) cap ts us h16 h3 (fun i hi=>⟨g,0,rfl,(Array.getElem?_eq_some_iff.1 h2).1,h1,?_,hok i hi,hfl i hi⟩) hs
  have hc:∀j u,(pc ts us)[j]? =some u→w.cell? ((⟨g,0,none⟩:Addr).add j)=some u:=hO.cells (g:=g) rfl
  obtain⟨p1,p2⟩:=pc_at ts us i hl hi;intro j x hx
  have hj:j=0∨j=1:=by
   have:=(List.getElem?_eq_some_iff.1 hx).1
   simp at this;omega
  rcases hj with rfl|rfl
  ·cases hx
   have:=hc _ _ p1
   rw[add_off] at this;rw[Nat.add_zero,Nat.zero_add];exact this
  ·cases hx
   have:=hc _ _ p2
   rw[add_off] at this;rw[Nat.zero_add];exact this
theorem wpList_append_pl {w:World} {ops:Array Oper} {rest:List Oper} {o:Oper} {a:Act} {Q:Exit→Act→World→Prop} (hgd:o.guard=none) (s x:Operand)
 (ho:o.op=.call {callee:=.builtin .append,args:=#[s,x],argTypes:=#[90,90]})
 (base:Nat) (v:Value) (k:Nat) (xs:List Value) (hs:a.eval s=v) (hO:w.ownsRow base 138 2 v k xs) (hk:k≤100)
 (c0 c1:Value) (g:Nat) (hx:a.eval x=.slice (some ⟨g,0,none⟩) 1 1) (hnews:∀j y,[c0,c1][j]? =some y→w.cell? ((⟨g,0,none⟩:Addr).add j)=some y) (h0:c0.oneCell'=true) (h1:c1.oneCell'=true)
 (hbase:base≤w.heap.size)
 (h:∀v' w',w'.ownsRow base 138 2 v' (k+1) (xs++[c0,c1])→w.grownBy w' v.ownBlock→Nx w v v'→wpList Tryz.prog ops Q rest (a.put o.dst v') w'):wpList Tryz.prog ops Q (o::rest) a w:=by
 obtain⟨i0,hi,hz0,hz1,hz2⟩:=infoPl
 refine wpList_plain hgd fun _ hK=>wp_append_nx s x 90 ho base 138 i0 (.agg #[.int .i64 0,.nilIface]) 2 24 Tryz.underlying90 hi hz0 hz1 hz2 rfl (by decide) v k xs hs hO ⟨g,0,none⟩ 1 1 [c0,c1] hx rfl hnews (fun u hu=>?_) (by unfold maxLen;omega) (by omega) hbase (fun v' w' h2 h3 h4=>hK _ _ (h v' w' h2 h3 h4))
 simp at hu
 rcases hu with rfl|rfl
 ·exact h0
 ·exact h1
theorem wpList_load_slo {ops:Array Oper} {rest:List Oper} {o:Oper} {a:Act} {w:World} {Q:Exit→Act→World→Prop} (hw:Region.wanted o (yielded ops a.tmps)=true) (x:Operand) (ho:o.op=.load 88 x)
 (g off:Nat) (hx:a.eval x=.pointer (some ⟨g,off,none⟩)) (c0 c1 c2 c3 c4:Value) (hr:w.rangeAt g off [c0,c1,c2,c3,c4])
 (h:wpList Tryz.prog ops Q rest (a.put o.dst (.agg #[c0,c1,c2,c3,c4])) w):wpList Tryz.prog ops Q (o::rest) a w:=
 BigFrame.wpList_want hw fun _ hK=>wp_load_mid 88 x ho g off hx [c0,c1,c2,c3,c4] _ hr Tryz.underlying88 rfl infoS (hK _ _ h)
theorem a_message {W:World} {v:Value} {ts:List Slt} (h:Slo W v ts):MsgC W v ts:=by
 induction h with
 |mk ao cap ts us hl hc hn h hs ih=>
  intro w g deep L hw hg hL hd1 hd2 hL0 hL1;have cg:w.cell? ⟨g,0,none⟩=some (.int .i64 L):=cell_of_row _ _ _ _ _ _ hL;have lG:=hL.lt
  by_cases hx:6<deep∨16<ts.length∨L<ts.length
  ·have e:pm ts deep L= -1:=if_pos hx
   rw[e]
   clear h hs ih e
   by_cases x1:6<deep
   ·have d1:decide (deep>6)=true:=by simpa using x1
    go_enter Tryz.func67,Tryz.ntmps67
    go_wp2_with (fail)
    go_ret2
    exact⟨But.refl _ _,.inr ⟨by decide,rfl⟩⟩
   ·have d1:decide (deep>6)=false:=by simpa using x1
    by_cases x2:16<ts.length
    ·have d2:decide ((ts.length:Int)>16)=true:=by simp;omega
     clear hx
     go_enter Tryz.func67,Tryz.ntmps67
     go_wp2_with (fail)
     go_ret2
     exact⟨But.refl _ _,.inr ⟨by decide,rfl⟩⟩
    ·have x3:L<ts.length:=by omega
     have d2:decide ((ts.length:Int)>16)=false:=by simp;omega
     have d3:decide ((ts.length:Int)>L)=true:=by simpa using x3
     clear hx
     go_enter Tryz.func67,Tryz.ntmps67
     go_wp2_with (fail)
     go_ret2
     exact⟨But.refl _ _,.inr ⟨by decide,rfl⟩⟩
  ·have e:pm ts deep L=pmL ts 0 deep (L-ts.length):=if_neg hx
   rw[e]
   have x1:¬6<deep:=by omega
   have x2:ts.length≤16:=by omega
   have x3:(ts.length:Int)≤L:=by omega
   have d1:decide (deep>6)=false:=by simpa using x1
   have d2:decide ((ts.length:Int)>16)=false:=by simp;omega
   have d3:decide ((ts.length:Int)>L)=false:=by simp;omega
   clear hx e
   generalize hR:pmL ts 0 deep (L-ts.length)=R at *
   have hB0:But g w (w.setCell ⟨g,0,none⟩ (.int .i64 (L-ts.length))):=But.set w _
   have hL':Lc (w.setCell ⟨g,0,none⟩ (.int .i64 (L-ts.length))) g (L-ts.length):=by
    have:=heap_setCell_same w g 0 _ _ (.int .i64 (L-ts.length)) hL;exact this
   have fz:w.frozen? ⟨g,0,none⟩=false:=by
    have hL2:w.heap[g]? =some (.cells #[.int .i64 L] 132 (0,0)):=hL
    simp[World.frozen?,hL2]
   replace hR:=hide hR
   go_enter Tryz.func67,Tryz.ntmps67
   go_wp2_with (fail)
   generalize w.setCell ⟨g,0,none⟩ (.int .i64 (L-ts.length))=w0 at *
   go_loopw [8,9,41] (fun m last i wr=>∃(k:Nat) (prev M:Int) (vs:List Value),k≤ts.length∧i=.int .i64 k∧last=.int .i64 prev∧0≤prev∧0≤M∧M≤256∧Lc wr g M∧But g w wr∧R=pmL (ts.drop k) prev deep M∧vs.length=k∧wr.ownsRow w.heap.size 138 2 m k (pc (ts.take k) vs)∧(∀i,i<k→Flt (gs ts i) (gvs vs i))∧∀i,i<k→nst (gs ts i)→MsgL wr (fun b=>w.heap.size≤b∧m.ownBlock≠some b) (gvs vs i) (gs ts i).sub) (fun _ _ i _=>ts.length-(intOf i).toNat)
   case atStart=>exact⟨0,0,L-ts.length,[],by omega,rfl,rfl,by omega,by omega,by omega,hL',hB0,hR.out.symm,rfl,⟨rfl,.inl ⟨rfl,rfl⟩⟩,fun i hi=>by omega,fun i hi=>by omega⟩
   case round=>
    clear hB0 hL' hR;obtain⟨k,prev,M,vs,hk,rfl,rfl,hp0,hM0,hM1,hL',hB,he,hvl,hO,hFl,hN⟩:=hrel;obtain⟨mo,mc,rfl⟩:=own_slice hO;have hww:=hB.after hw hg
    by_cases hlt:k<ts.length
    ·have hd:decide ((k:Int)<(ts.length:Int))=true:=by simp;omega
     obtain⟨b,off,hao,hbl,hra,hok⟩:=h k hlt
     have hSl:=hs k hlt;have hih:=ih k hlt;subst hao;have hrw:=rangeS_keep2 hra hww hbl
     have hk1:0≤(k:Int)∧(k:Int)<(ts.length:Int):=by omega
     rw[sdrop ts k hlt,pmL_cons _ _ _ _ _ hM0] at he
     have hgs:ts.take (k+1)=ts.take k++[gs ts k]:=by
      rw[List.take_succ_eq_append_getElem hlt,gs,List.getD_eq_getElem?_getD,List.getElem?_eq_getElem hlt];rfl
     obtain⟨ua,uc,hue⟩:=hSl.form
     generalize hu:gvs us k=u at *
     subst hue;clear h hs ih hra hu;have r1:=hp1_0 wr (.cells #[.int .i64 (gs ts k).no,.int .i64 (gs ts k).kind,.int .u64 ((gs ts k).least:Int),.int .u64 ((gs ts k).most:Int),.slice ua (gs ts k).sub.length uc] 88);have hba:Below wr.heap.size wr (wr.alloc (.cells #[.int .i64 (gs ts k).no,.int .i64 (gs ts k).kind,.int .u64 ((gs ts k).least:Int),.int .u64 ((gs ts k).most:Int),.slice ua (gs ts k).sub.length uc] 88)):=(Below.refl _ _).alloc (Nat.le_refl _) _;obtain⟨c0,-,-,-,-⟩:=cells5 r1
     have cS:=a_shape (t:=gs ts k) hSl hih hok (wr.alloc (.cells #[.int .i64 (gs ts k).no,.int .i64 (gs ts k).kind,.int .u64 ((gs ts k).least:Int),.int .u64 ((gs ts k).most:Int),.slice ua (gs ts k).sub.length uc] 88)) g deep M (Below.after hww hba) hg (keep hba hL') (by omega) (by omega) hM0 hM1
     simp only[srow] at cS
     generalize hgt:gs ts k=t at *
     replace hgt:=hide hgt
     by_cases y1:t.no≤prev
     ·have e1:decide (t.no≤prev)=true:=by simpa using y1
      rw[if_pos (.inl y1)] at he
      replace he:=hide he;clear cS hN
      go_wp2_with (first|(refine wpList_load_slo rfl _ rfl b (off+k*5) rfl _ _ _ _ _ hrw ?_)|(refine wpList_load_want rfl 88 _ rfl wr.heap.size rfl 88 #[.int .i64 t.no,.int .i64 t.kind,.int .u64 (t.least:Int),.int .u64 (t.most:Int),.slice ua t.sub.length uc] (0,0) _ r1 Tryz.underlying88 rfl infoS ?_)|fail)
      go_ret2
      exact⟨hB.trans (But.of hba),.inr ⟨by rw[he.out];decide,rfl⟩⟩
     ·have e1:decide (t.no≤prev)=false:=by simpa using y1
      by_cases y2:536870911<t.no
      ·have e2:decide (t.no>536870911)=true:=by simpa using y2
       rw[if_pos (.inr y2)] at he
       replace he:=hide he;clear cS hN
       go_wp2_with (first|(refine wpList_load_slo rfl _ rfl b (off+k*5) rfl _ _ _ _ _ hrw ?_)|(refine wpList_load_want rfl 88 _ rfl wr.heap.size rfl 88 #[.int .i64 t.no,.int .i64 t.kind,.int .u64 (t.least:Int),.int .u64 (t.most:Int),.slice ua t.sub.length uc] (0,0) _ r1 Tryz.underlying88 rfl infoS ?_)|fail)
       go_ret2
       exact⟨hB.trans (But.of hba),.inr ⟨by rw[he.out];decide,rfl⟩⟩
      ·have e2:decide (t.no>536870911)=false:=by simpa using y2
       rw[if_neg (by omega)] at he
       have hple:=psh_le t deep M hM0;have he':=he;replace he:=hide he;replace he':=hide he'
       go_wp2_with (first|(refine wpList_load_slo rfl _ rfl b (off+k*5) rfl _ _ _ _ _ hrw ?_)|(refine wpList_load_want rfl 88 _ rfl wr.heap.size rfl 88 #[.int .i64 t.no,.int .i64 t.kind,.int .u64 (t.least:Int),.int .u64 (t.most:Int),.slice ua t.sub.length uc] (0,0) _ r1 Tryz.underlying88 rfl infoS ?_)|fail)
       have hsz1:wr.heap.size<((wr.alloc (.cells #[.int .i64 t.no,.int .i64 t.kind,.int .u64 (t.least:Int),.int .u64 (t.most:Int),.slice ua t.sub.length uc] 88))).heap.size:=(Array.getElem?_eq_some_iff.1 r1).1
       generalize (wr.alloc (.cells #[.int .i64 t.no,.int .i64 t.kind,.int .u64 (t.least:Int),.int .u64 (t.most:Int),.slice ua t.sub.length uc] 88))=w1 at *
       refine cS.mono ?_;rintro e_ w2 ⟨hb2,hres⟩;clear cS;have hB2:But g w w2:=(hB.trans (But.of hba)).trans hb2
       have hbo:∀q,q<wr.heap.size→q≠g→w2.heap[q]? =wr.heap[q]? :=fun q h1 h2=>(hb2.block q (by omega) h2).trans (hba.block q h1)
       have lG':=hL'.lt
       have r2:=hb2.row r1 (by omega)
       obtain⟨c0',-,-,-,-⟩:=cells5 r2;have hown:=own_lt hO
       have hO2:w2.ownsRow w.heap.size 138 2 (.slice mo k mc) k (pc (ts.take k) vs):=own_but hO fun q hq=>hbo q (hown q hq).2 (by have:=(hown q hq).1;omega)
       rcases hres with⟨hr0,x,rfl,hqf,hv,hl2⟩|⟨hr0,x,rfl⟩
       ·have hN2:∀i,i<k→nst (gs ts i)→MsgL w2 (fun b=>w.heap.size≤b∧(Value.slice mo k mc).ownBlock≠some b∧b<w2.heap.size) (gvs vs i) (gs ts i).sub:=fun i hi hn=>(hN i hi hn).keep (Nat.le_trans hba.size hb2.size) fun q h1 h2=>⟨hbo q h1 (by have:=h2.1;omega),h2.1,h2.2,by have:=hba.size;have:=hb2.size;omega⟩
        have hvN:nst t→MsgL w2 (fun b=>w.heap.size≤b∧(Value.slice mo k mc).ownBlock≠some b∧b<w2.heap.size) x t.sub:=fun hn=>(hv hn).keep (Nat.le_refl _) fun q h1 h2=>⟨rfl,by have:=hB.size;omega,fun e=>by have:=(hown q e).2;omega,h1⟩
        replace he':=he'.out
        rw[if_neg (by omega)] at he'
        obtain⟨Tt,cc,hsh⟩:=shp_iface t x;rw[hsh];have hsh':Hid (shp t x=.iface Tt cc):=hide hsh;replace he':=hide he'
        have gG:(Value.slice mo k mc).ownBlock≠some g:=fun e=>by have:=(hown g e).1;omega
        have hgw:g<w.heap.size:=lG;have hwS:w.heap.size≤w2.heap.size:=hB2.size;have hG2:g<w2.heap.size:=hl2.lt;clear hsh hv hN hO hb2 hbo hba r1 hrw;have cN1:(w2.alloc (.cells #[.int .i64 t.no,.iface Tt cc] 138)).heap[w2.heap.size]? =_:=hp1_0 w2 _
        have hnc:∀j y,[Value.int .i64 t.no,.iface Tt cc][j]? =some y→(w2.alloc (.cells #[.int .i64 t.no,.iface Tt cc] 138)).cell? ((⟨w2.heap.size,0,none⟩:Addr).add j)=some y:=fun j y hy=>by
         rw[add_off,cell_of_row _ _ _ _ _ _ cN1]
         simpa using hy
        have hba2:Below w2.heap.size w2 (w2.alloc (.cells #[.int .i64 t.no,.iface Tt cc] 138)):=(Below.refl _ _).alloc (Nat.le_refl _) _
        have hO3:=own_but (w':=w2.alloc (.cells #[.int .i64 t.no,.iface Tt cc] 138)) hO2 fun q hq=>hba2.block q (own_lt hO2 q hq).2
        go_wp2_with (first|(at_builtin;refine wpList_append_pl rfl (.tmp 65) (.tmp 70) rfl w.heap.size _ k _ rfl hO3 (by omega) (.int .i64 t.no) (.iface Tt cc) w2.heap.size rfl hnc rfl rfl (by rw[size_alloc1];omega) ?_)|fail)
        intro v' w3 h1 h2 h3;have hsA:(w2.alloc (.cells #[.int .i64 t.no,.iface Tt cc] 138)).heap.size=w2.heap.size+1:=size_alloc1 _ _
        have hB3:But g w w3:=⟨h2.os.trans (hba2.os.trans hB2.os),h2.tape.trans (hba2.tape.trans hB2.tape),h2.output.trans (hba2.output.trans hB2.output),Nat.le_trans hwS (Nat.le_trans hba2.size h2.size),
         fun q h4 h5=>(h2.block q (by omega) (fun e=>by have:=(hown q e.symm).1;omega)).trans ((hba2.block q (by omega)).trans (hB2.block q h4 h5))⟩
        have hL3:Lc w3 g (psh t deep M):=((h2.block g (by omega) (fun e=>gG e.symm)).trans (hba2.block g hG2)).trans hl2
        have hS3:∀q,q<w2.heap.size→(w.heap.size≤q∧(Value.slice mo k mc).ownBlock≠some q∧q<w2.heap.size)→w3.heap[q]? =w2.heap[q]?∧(w.heap.size≤q∧v'.ownBlock≠some q):=fun q h4 h5=>
         ⟨(h2.block q (by omega) (fun e=>h5.2.1 e.symm)).trans (hba2.block q h4),h5.1,h3.ne (by omega) h5.2.1⟩
        have hs23:w2.heap.size≤w3.heap.size:=Nat.le_trans hba2.size h2.size
        have hN3:∀i,i<k+1→nst (gs ts i)→MsgL w3 (fun b=>w.heap.size≤b∧v'.ownBlock≠some b) (gvs (vs++[x]) i) (gs ts i).sub:=fun i hi hni=>by
         rcases Nat.lt_or_ge i k with h6|h6
         ·rw[show gvs (vs++[x]) i=gvs vs i from gvs_low _ _ _ (by omega)]
          exact(hN2 i h6 hni).keep hs23 hS3
         ·have h7:i=k:=by omega
          subst h7
          rw[show gvs (vs++[x]) i=x from gvs_top _ _ _ hvl]
          rw[hgt.out] at hni⊢
          exact(hvN hni).keep hs23 hS3
        have hF3:∀i,i<k+1→Flt (gs ts i) (gvs (vs++[x]) i):=fun i hi=>by
         rcases Nat.lt_or_ge i k with h6|h6
         ·rw[gvs_low _ _ _ (by omega)]
          exact hFl i h6
         ·have h7:i=k:=by omega
          subst h7
          rw[gvs_top _ _ _ hvl,hgt.out];exact hqf
        have hO4:w3.ownsRow w.heap.size 138 2 v' (k+1) (pc (ts.take (k+1)) (vs++[x])):=by
         rw[hgs,pc_snoc _ _ _ _ (by rw[List.length_take];omega),hsh'.out]
         exact h1
        obtain⟨no',co',hv'⟩:=own_slice h1;subst hv';clear h1 h2 h3 hN2 hvN hO2 hO3 hba2 hnc cN1 hS3 hown
        go_wp2_with (fail)
        refine⟨⟨k+1,t.no,psh t deep M,vs++[x],by omega,by go_num,rfl,by omega,hr0,by omega,hL3,hB3,he'.out,by simp;omega,hO4,hF3,hN3⟩,?_⟩
        simp[intOf];omega
       ·go_wp2_with (fail)
        go_ret2
        refine⟨hB2,.inr ⟨?_,rfl⟩⟩;rw[he.out,if_pos hr0]
        decide
    ·have hd:decide ((k:Int)<(ts.length:Int))=false:=by simp;omega
     have hkl:k=ts.length:=by omega
     subst hkl;rw[List.drop_eq_nil_of_le (Nat.le_refl _),pmL] at he;rw[List.take_length] at hO
     have hm:=msg_of hO hvl.symm x2 (fun i hi=>(h i hi).elim fun _ q=>q.elim fun _ q=>q.2.2.2) hFl (fun i hi hn=>(hN i hi hn).keep (Nat.le_refl _) fun b _ hb=>⟨rfl,hb.1⟩)
     replace he:=hide he;clear h hs ih hN hvl hO
     go_wp2_with (fail)
     go_ret2
     exact⟨hB,.inl ⟨by rw[he.out];exact hM0,_,rfl,hm,by rw[he.out];exact hL'⟩⟩
theorem a_outline {W:World} {v:Value} {ts:List Slt} (h:Slo W v ts) (w:World) (hw:Below W.heap.size W w):Calls Tryz.prog 41 #[v] w fun e w'=>Below w.heap.size w w'∧((vld ts=0∧∃m,e=.returned (.tuple #[m,.int .i64 0])∧MsgL w' (fun b=>w.heap.size≤b) m ts)∨(vld ts≠0∧e=.returned (.tuple #[nS,.int .i64 (vld ts)]))):=by
 have r1:=hp1_0 w (.cells #[.int .i64 256] 132);have hba:Below w.heap.size w (w.alloc (.cells #[.int .i64 256] 132)):=(Below.refl _ _).alloc (Nat.le_refl _) _;have hsz:=hba.size
 have cM:=a_message h _ w.heap.size 1 256 (Below.after hw hba) hw.size r1 (by omega) (by omega) (by omega) (by omega)
 have hpl:=pm_lft ts 1 256 (by omega)
 have hv1:lft ts 1 256<0→vld ts=80:=fun h=>if_pos h
 have hv2:¬lft ts 1 256<0→vld ts=if 4194304<(spL ts 0 0).2 then 2 else 0:=fun h=>if_neg h
 have hgd:0≤lft ts 1 256→gd ts:=lft_gd ts 1 256 (by omega)
 have hps:=prS_spL ts
 have hle:=spL_le ts 0 0 (by omega) (by omega)
 rw[←hps] at hv2 hle;clear hps;obtain⟨ao,cap,rfl⟩:=h.form
 go_enter Tryz.func41,Tryz.ntmps41
 go_wp2_with (fail)
 generalize w.alloc (.cells #[.int .i64 256] 132)=w0 at *
 refine cM.mono ?_;rintro e_ w1 ⟨hb1,hres⟩;have hB:Below w.heap.size w w1:=hba.trans (hb1.below (Nat.le_refl _) hsz);clear cM
 rcases hres with⟨hr0,m,rfl,hm,_⟩|⟨hr0,rfl⟩
 ·have hg:=hgd (hpl.1 hr0)
  have cS:=a_mspan hm.msg hg w1 (Below.refl _ _)
  have hv3:=hv2 (by have:=hpl.1 hr0;omega)
  obtain⟨hl1,hl2⟩:=hle
  generalize (prS ts).1=A at *
  generalize (prS ts).2=Bm at *
  have hm2:MsgL w1 (fun b=>w.heap.size≤b) m ts:=hm.keep (Nat.le_refl _) fun b _ hb=>⟨rfl,by omega⟩
  clear hv1 hv2 hgd hpl hr0 hg hm
  by_cases hBm:4194304<Bm
  ·rw[if_pos hBm] at hv3
   have d1:decide ((Bm:Int)>4194304)=true:=by simp;omega
   replace hv3:=hide hv3
   go_wp2_with (fail)
   refine cS.mono ?_;rintro e_ w2 ⟨rfl,hb2⟩
   go_wp2_with (fail)
   go_ret2
   exact⟨hB.trans (hb2.mono hB.size),.inr ⟨by rw[hv3.out];decide,by rw[hv3.out];rfl⟩⟩
  ·rw[if_neg hBm] at hv3
   have d1:decide ((Bm:Int)>4194304)=false:=by simp;omega
   replace hv3:=hide hv3
   go_wp2_with (fail)
   refine cS.mono ?_;rintro e_ w2 ⟨rfl,hb2⟩
   go_wp2_with (fail)
   go_ret2
   exact⟨hB.trans (hb2.mono hB.size),.inl ⟨hv3.out,_,rfl,hm2.keep hb2.size fun b h1 h2=>⟨hb2.block b h1,h2⟩⟩⟩
 ·have hv3:=hv1 (by have:=hpl.2;omega)
  replace hv3:=hide hv3
  clear hv1 hv2 hgd hpl hle
  go_wp2_with (fail)
  go_ret2
  exact⟨hB,.inr ⟨by rw[hv3.out];decide,by rw[hv3.out];rfl⟩⟩
end Go.Proofs.YtmmlkfkpblokiaaGreatDoor
