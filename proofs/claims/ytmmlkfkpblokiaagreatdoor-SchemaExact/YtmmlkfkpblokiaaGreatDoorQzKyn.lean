import Derived.Test.YtmmlkfkpblokiaaGreatDoorQzWv
set_option maxRecDepth 100000
set_option maxHeartbeats 16000000
namespace Go.Proofs.YtmmlkfkpblokiaaGreatDoor
open Go Go.RowKit Go.Sort
attribute [local go_sem] setCell_drewN alloc_drewN
theorem ecut {G:Prop} {A:Nat→World→Prop} (T:Nat→World→Prop) (h1:(∀g W,T g W→A g W)→G) (h2:∀g W,T g W→A g W):G:=h1 h2
theorem VtM.info9 {W:World} {S:Nat→Prop} {x:VR} {X:VT} (h:VtM W S x X):(∀no ty,-9223372036854775808≤no→no≤9223372036854775807→Fok ⟨no,ty,x.num,X.dat⟩)∧BysB W (.slice x.da x.dl x.dc) X.dat∧∀a,lv x.dl x.da=some a→S a.block∧a.block<W.heap.size:=by
 cases h with
 |mk x bs xs ps hn hdl hbl hd hdc hds hpl hxl hpc hpm hps hP hs=>exact⟨fun no ty h1 h2=>⟨hn,hbl,h1,h2⟩,hd,hds⟩
theorem msg_field9 (t:Slt) (h8:t.kind=8) (X:VT):fdS t X=⟨t.no,wtA t.kind,0,enT t.sub X⟩:=by
 rw[msg_field t h8,h8];rfl
theorem lst_field9 (t:Slt) (h9:t.kind=9) (X:VT) (h0:X.num=0):fdS t X=⟨t.no,wtA t.kind,X.num,jout (X.parts.map (enT t.sub))⟩:=by
 rw[lst_field t h9,h9,h0];rfl
def lnT:List Slt→List VT→Prop
 | .mk _ k _ _ sub::ts,x::xs=>(k=8→lnT sub x.parts)∧(k=9→x.num=0∧∀p∈x.parts,lnT sub p.parts)∧lnT ts xs
 |_,_=>True
theorem lnT_cons (t:Slt) (ts:List Slt) (x:VT) (xs:List VT):lnT (t::ts) (x::xs)↔(t.kind=8→lnT t.sub x.parts)∧(t.kind=9→x.num=0∧∀p∈x.parts,lnT t.sub p.parts)∧lnT ts xs:=by
 cases t
 rw[lnT];rfl
theorem lnT_at:∀(ts:List Slt) (xs:List VT) (i:Nat),ts.length=xs.length→i<ts.length→lnT ts xs→((gs ts i).kind=8→lnT (gs ts i).sub (gvt xs i).parts)∧((gs ts i).kind=9→(gvt xs i).num=0∧∀p∈(gvt xs i).parts,lnT (gs ts i).sub p.parts)
 |[],_,_,_,h,_=>by simp at h
 |_::_,[],_,h,_,_=>by simp at h
 |t::ts,x::xs,0,_,_,hw=>by
  rw[lnT_cons] at hw;exact⟨hw.1,hw.2.1⟩
 |t::ts,x::xs,i+1,h,hi,hw=>by
  rw[lnT_cons] at hw
  exact lnT_at ts xs i (by simpa using h) (by simpa using hi) hw.2.2
theorem infoBs9:(Tryz.prog.info? 24).map (·.size)=some 1:=by kernel_rfl
theorem infoU9:(Tryz.prog.info? 23).map (·.size)=some 1:=by kernel_rfl
theorem Bx.range {W:World} {g:Nat} {c:Array Value} (h:Bx W g c):W.rangeAt g 0 c.toList:=fun j v hv=>by
 obtain⟨_,h_⟩:=h;rw[Nat.zero_add,cell_of_row _ _ j _ _ _ h_]
 simpa using hv
theorem own_told9 {W:World} {b:Nat} {u:Value} {d:List B} (h:Own W b u d) (hl:Hid (d.length≤4194304)):∃da dc,u=.slice da d.length dc∧BysB W (.slice da d.length dc) d∧∀a,lv d.length da=some a→a.block<W.heap.size∧b≤a.block:=by
 obtain⟨da,dc,e,h1,h2⟩:=own_told h hl.out
 refine⟨da,dc,e,h1,fun a ea=>h2 a ?_⟩
 unfold lv at ea
 split at ea<;>simp_all
theorem run_storeVar_c9 {P:Program} (w:World) (g off:Nat) (ty:TypeId) (v:Value) (ht:w.there g off 1) (hi:(P.info? ty).map (·.size)=some 1) (h1:v.oneCell'=true):(storeVar ty ⟨g,off,none⟩ v).run P w=.ok () (w.setCells g off [v]):=by
 have:=run_storeCells_cells (P:=P) g off [v] 0 w (fun j hj=>by simpa using(ht j (by simpa using hj)).1) (fun j hj=>by simpa using(ht j (by simpa using hj)).2) (fun u hu=>by simp at hu;subst hu;exact h1)
 have hc:v.cells=#[v]:=by cases v<;>first|rfl|cases h1
 cases hq:P.info? ty with
 |none=>simp[hq] at hi
 |some i=>
  have hs:i.size=1:=by simpa[hq] using hi
  simp only[Nat.add_zero] at this
  simp[storeVar,sizeOf,typeInfo,hq,hc,hs,this]
theorem wp_store_c9 {P:Program} {o:Oper} {a:Act} {w:World} {K:Act→World→Prop} {Q:Exit→Act→World→Prop} (ty:TypeId) (x y:Operand) (ho:o.op=.store ty x y)
 (g off:Nat) (v:Value) (hx:a.eval x=.pointer (some ⟨g,off,none⟩)) (hy:a.eval y=v) (t:TypeId) (old new:Array Value) (hg:w.heap[g]? =some (.cells old t (0,0))) (hlt:off<old.size) (hnew:old.setIfInBounds off v=new)
 (hi:(P.info? ty).map (·.size)=some 1) (h1:v.oneCell'=true)
 (h:K (a.put o.dst undef) (w.setRow g new)):o.wp P a w K Q:=by
 unfold Oper.wp execOp;simp only[ho,hx,hy,Instr.storeAt,Instr.sureAddr,Sem.run_bind,Sem.run_pure,Result.andThen_ok,run_storeVar_c9 w g off ty v (there_row hg hlt) hi h1];rw[setCells_eq [v] off w old hg];have e:ovw old off [v]=new:=hnew;rw[e];exact h
theorem wpList_store_c9 {P:Program} {ops:Array Oper} {rest:List Oper} {o:Oper} {a:Act} {w:World} {Q:Exit→Act→World→Prop} (hgd:o.guard=none) (ty:TypeId) (x y:Operand) (ho:o.op=.store ty x y)
 (g off:Nat) (v:Value) (hx:a.eval x=.pointer (some ⟨g,off,none⟩)) (hy:a.eval y=v) (t:TypeId) (old new:Array Value) (hg:w.heap[g]? =some (.cells old t (0,0))) (hlt:off<old.size) (hnew:old.setIfInBounds off v=new)
 (hi:(P.info? ty).map (·.size)=some 1) (h1:v.oneCell'=true)
 (h:wpList P ops Q rest (a.put o.dst undef) (w.setRow g new)):wpList P ops Q (o::rest) a w:=by
 refine wpList_plain hgd fun _ hK=>?_
 unfold Oper.wp execOp;simp only[ho,hx,hy,Instr.storeAt,Instr.sureAddr,Sem.run_bind,Sem.run_pure,Result.andThen_ok,run_storeVar_c9 w g off ty v (there_row hg hlt) hi h1];refine hK _ _ ?_;rw[setCells_eq [v] off w old hg];have e:ovw old off [v]=new:=hnew;rw[e];exact h
theorem wp_append_I9 {w:World} {o:Oper} {a:Act} {K:Act→World→Prop} {Q:Exit→Act→World→Prop} (s x:Operand)
 (ho:o.op=.call {callee:=.builtin .append,args:=#[s,x],argTypes:=#[122,122]})
 (base:Nat) (v:Value) (us:List Value) (ps:List (List B)) (hs:a.eval s=v) (L:Nat) (hI:Its w base v us ps) (hL:∀k,v.ownBlock=some k→k<L) (hLi:∀i,i<us.length→∀k,(gv us i).ownBlock=some k→k<L) (hbL:base≤L)
 (u:Value) (p:List B) (hu:Own w L u p) (g:Nat) (hx:a.eval x=.slice (some ⟨g,0,none⟩) 1 1) (hnews:∀j x,[u][j]? =some x→w.cell? ((⟨g,0,none⟩:Addr).add j)=some x)
 (hlen:ps.length≤5864062014634) (hbase:base≤w.heap.size)
 (h:∀v' w',Its w' base v' (us++[u]) (ps++[p])→w.grownBy w' v.ownBlock→K (a.put o.dst v') w'):o.wp Tryz.prog a w K Q:=by
 obtain⟨i0,hi,hz0,hz1,hz2⟩:=info24;have hul:=hI.2.1
 refine wp_append_gen s x 122 ho base 24 i0 nS 1 24 Tryz.underlying122 hi hz0 hz1 hz2 rfl (by decide) v us.length us hs hI.1 ⟨g,0,none⟩ 1 1 [u] hx rfl (by decide) hnews (fun x hx=>?_) (by unfold maxLen;omega) (by omega) hbase (fun v' w' h1 h2 h3=>h v' w' (hI.snoc hL hLi hbL hu h1 h2 h3) h2)
 simp at hx
 subst hx;obtain⟨ao,cap,rfl⟩:=slen_own hu;rfl
theorem wpList_append_f9 {w:World} {ops:Array Oper} {rest:List Oper} {o:Oper} {a:Act} {Q:Exit→Act→World→Prop} (hgd:o.guard=none) (s x:Operand)
 (ho:o.op=.call {callee:=.builtin .append,args:=#[s,x],argTypes:=#[116,116]})
 (base:Nat) (v:Value) (k:Nat) (xs:List Value) (hs:a.eval s=v) (hO:w.ownsRow base 118 4 v k xs) (hk:k≤2932031007317)
 (cs:List Value) (hcl:cs.length=4) (g:Nat) (hx:a.eval x=.slice (some ⟨g,0,none⟩) 1 1) (hnews:∀j y,cs[j]? =some y→w.cell? ((⟨g,0,none⟩:Addr).add j)=some y) (h1:∀u∈cs,u.oneCell'=true)
 (hbase:base≤w.heap.size)
 (h:∀v' w',w'.ownsRow base 118 4 v' (k+1) (xs++cs)→w.grownBy w' v.ownBlock→Nx w v v'→wpList Tryz.prog ops Q rest (a.put o.dst v') w'):wpList Tryz.prog ops Q (o::rest) a w:=by
 obtain⟨i0,hi,hz0,hz1,hz2⟩:=info48
 exact wpList_plain hgd fun _ hK=>wp_append_nx s x 116 ho base 118 i0 (.agg #[.int .i64 0,.int .i64 0,.int .u64 0,nS]) 4 48 Tryz.underlying116 hi hz0 hz1 hz2 rfl (by decide) v k xs hs hO ⟨g,0,none⟩ 1 1 cs hx hcl hnews h1 (by unfold maxLen;omega) (by omega) hbase (fun v' w' h1 h2 h3=>hK _ _ (h v' w' h1 h2 h3))
theorem r_encodeN {sv:Value} {ts:List Slt} (L:Nat) (x:VR) (X:VT) (w:World) (h:Slo w sv ts) (hX:VtM w (fun b=>b<L) x X) (hgd:gd ts) (hlx:X.parts.length=ts.length) (hwf:wfT ts X.parts) (hln:lnT ts X.parts) (hL:L≤w.heap.size)
 (hsub:∀(k:Nat),k<ts.length→nst (gs ts k)→∀(u:Value) (y:VR) (Y:VT) (V:World),Below w.heap.size w V→Slo V u (gs ts k).sub→VtM V (fun b=>b<L) y Y→Y.parts.length=(gs ts k).sub.length→wfT (gs ts k).sub Y.parts→lnT (gs ts k).sub Y.parts→Calls Tryz.prog 36 #[u,.agg (vrv y)] V fun e w'=>∃u,e=.returned u∧Own w' V.heap.size u (enT (gs ts k).sub Y)∧Below V.heap.size V w'):
 Calls Tryz.prog 36 #[sv,.agg (vrv x)] w fun e w'=>∃u,e=.returned u∧Own w' w.heap.size u (enT ts X)∧Below w.heap.size w w':=by
 cases h with
 |mk ao cap ts us hl hc hnn h hs=>
  obtain⟨xs,hP⟩:=hX.split;obtain⟨n,da,dl,dc,pa,pl,pc⟩:=x;simp only at hP;have eEN:enT ts X=eout (fdT ts X.parts):=rfl;rw[eEN];clear eEN
  generalize X.parts=ps at *
  obtain⟨pa',pc',e,hxl,hpc,hpm,hpr,hvt⟩:=hP
  injection e with e1 e2 e3
  subst e1 e2 e3
  have hwa:=fun k (hlt:k<ts.length)=>wfT_at ts ps k hlx.symm hlt hwf
  have hla:=fun k (hlt:k<ts.length)=>lnT_at ts ps k hlx.symm hlt hln
  have hgk:=fun k (hlt:k<ts.length)=>gd_at ts k hlt hgd
  have hps:=hide (fun k (hlt:k<ts.length)=>fdT_take ts ps k hlx.symm hlt)
  have hpl:=hide (fun k (hk:k≤ts.length)=>(by rw[fdT_len _ _ (by rw[List.length_take,List.length_take,hlx]),List.length_take];omega:(fdT (ts.take k) (ps.take k)).length=k))
  have hpe:=hide (show ps.take ts.length=ps by rw[←hlx,List.take_length])
  rw[hlx] at hpc hpr hvt;unfold vrv;rw[hlx];clear hX hlx hgd hwf hln hpm;have hb0:Below w.heap.size w (w.alloc (.cells (vrw n (.slice da dl dc) (.slice pa ts.length pc)) 27)):=(Below.refl _ _).alloc (Nat.le_refl _) _;have rV:=hp1_0 w (.cells (vrw n (.slice da dl dc) (.slice pa ts.length pc)) 27)
  have cE:=hide (fun(V:World) (u:Value) (h:Fds V u (fdT ts ps))=>r_encode (fdT ts ps) V u h)
  replace hsub:=hide hsub
  unfold vrw at rV hb0⊢
  go_enter Tryz.func36,Tryz.ntmps36
  go_wp2_with (fail)
  generalize w.alloc (.cells #[.int .u64 (n:Int),.slice da dl dc,.slice pa ts.length pc] 27)=w0 at *
  go_loopw [6,5,7,8,9,10] (fun i out _ _ _ _ wr=>∃(k:Nat) (us2:List Value),k≤ts.length∧i=.int .i64 k∧FtW wr w.heap.size out us2 (fdT (ts.take k) (ps.take k))∧Below w.heap.size w wr∧Bx wr w.heap.size #[.int .u64 (n:Int),.slice da dl dc,.slice pa ts.length pc]∧out.ownBlock≠some w.heap.size) (fun i _ _ _ _ _ _=>ts.length-(intOf i).toNat)
  case atStart=>exact⟨0,[],by omega,rfl,by rw[List.take_zero,List.take_zero,fdT_nil];exact ftw_nil _ _,hb0,⟨_,rV⟩,by simp[Value.ownBlock]⟩
  case round=>
   clear rV hb0;obtain⟨k,us2,hk,rfl,hF,hb,rV,hne⟩:=hrel;have hfl:=hpl.out k hk;have hO:=hF.1;rw[hfl] at hO;replace hfl:=hide hfl;obtain⟨mo_,mc,rfl⟩:=own_slice hO
   by_cases hlt:k<ts.length
   ·have hd:decide ((k:Int)<(ts.length:Int))=true:=by simp;omega
    obtain⟨b,off,rfl,hbl,hra,hsok⟩:=h k hlt
    obtain⟨pb,poff,rfl,hpb,hpra⟩:=hpr k hlt;have hu:=hs k hlt;obtain⟨so,sc,hsu⟩:=hu.form;rw[hsu] at hra hu;have hsw:=rangeS_keep2 hra hb hbl;have hpw:=rangeS_keep2 hpra hb hpb
    have cT:=hide (show Gives 54 #[.int .i64 (gs ts k).kind] (.int .i64 (wtA (gs ts k).kind)) from r_typeOf _)
    have hst:=hide (hps.out k hlt);have hno:=(hgk k hlt).1
    have hsb:=hide (show((gs ts k).kind=8∨(gs ts k).kind=9)→_ from hsub.out k hlt)
    have hfo:=(hvt k hlt).info9
    have hfo1:=hide (hfo.1 (gs ts k).no (wtA (gs ts k).kind) (by omega) (by omega))
    have hBd0:=hide hfo.2.1;have hbk:=hide hfo.2.2;have hvz:=hide (hvt k hlt);have hnum:=hide (hvt k hlt).num_eq.1
    have hpf:=hide (fun h8 h9=>plain_field (gs ts k) h8 h9 (gvt ps k))
    have hp8:=hide (fun h8=>msg_field9 (gs ts k) h8 (gvt ps k))
    have hp9:=hide (fun h9 h0=>lst_field9 (gs ts k) h9 (gvt ps k) h0)
    have hl8:=hide (hla k hlt);have hw8:=hide (hwa k hlt);clear hfo;replace hu:=hide hu;replace hno:=hide hno;unfold srow at hsw hra;clear hwa hla hgk hps hpl hpe hs hsok hsu hsub cE h hpr hvt
    generalize fdS (gs ts k) (gvt ps k)=FF at *
    generalize fdT (ts.take k) (ps.take k)=fs at *
    generalize gs ts k=tk at *
    generalize gvt ps k=Zk at *
    generalize wtA tk.kind=wk at *
    generalize tk.no=no at *
    generalize tk.kind=kd at *
    generalize (tk.least:Int)=l at *
    generalize (tk.most:Int)=mo at *
    generalize tk.sub=sub at *
    generalize hsn:sub.length=sn at *
    replace hsn:=hide hsn
    generalize gx xs k=x at *
    obtain⟨xn,xda,xdl,xdc,xpa,xpl,xpc⟩:=x;unfold vrv vrw at hpw;have A8:=hide (own_lt hO);have A9:=hide hne;have hba:Below wr.heap.size wr (wr.alloc (.cells #[.int .u64 0,nS,nS] 27)):=(Below.refl _ _).alloc (Nat.le_refl _) _;have rS:=hp1_0 wr (.cells #[.int .u64 0,nS,nS] 27);have hbb:=below_setRow (g:=wr.heap.size) hba (Nat.le_refl _) #[.int .u64 (xn:Int),.slice xda xdl xdc,.slice xpa xpl xpc];have rX:=setRow_heap _ wr.heap.size _ #[.int .u64 (xn:Int),.slice xda xdl xdc,.slice xpa xpl xpc] _ _ rS
    have hone:(#[.int .u64 (xn:Int),.slice xda xdl xdc,.slice xpa xpl xpc]:Array Value).all (·.oneCell')=true:=by simp[Value.oneCell']
    have hlV:=rV.lt
    have cV:wr.cell? ⟨w.heap.size,2,none⟩=some (.slice (some ⟨pb,poff,none⟩) ts.length pc):=by obtain⟨_,h_⟩:=rV;rw[cell_of_row _ _ _ _ _ _ h_];rfl
    have A1:=hide (rangeS_keep2 hsw hbb (Nat.lt_of_lt_of_le hbl hb.size));have A2:=hide (Below.after hb hbb);have A3:=hide (hF.keep hbb);have A4:=hide (rV.keep hbb);have A5:=hide rX;clear hO hb rV hne hsw rX hra hpra hba hbb hF
    go_wp2_with (first|(refine wpList_load_mid rfl 27 _ rfl pb (poff+k*3) rfl _ _ hpw Tryz.underlying27 rfl infoV ?_)|(refine wpList_store_row rfl 27 _ _ rfl wr.heap.size #[.int .u64 (xn:Int),.slice xda xdl xdc,.slice xpa xpl xpc] rfl rfl 27 _ rS infoV rfl hone ?_)|fail)
    have hsw:=A1.out;have hb:=A2.out;have hF:=A3.out;have rV:=A4.out;have rX:=A5.out;clear A1 A2 A3 A4 A5 rS cV hpw;have hgx:wr.heap.size<_:=lt_of_row rX
    generalize (wr.alloc (.cells #[.int .u64 0,nS,nS] 27)).setRow wr.heap.size #[.int .u64 (xn:Int),.slice xda xdl xdc,.slice xpa xpl xpc]=w2 at *
    generalize hgxe:wr.heap.size=gx_ at *
    have hgw:w.heap.size≤gx_:=by omega
    have hblt:b<w.heap.size:=hbl;replace hgxe:=hide hgxe
    have hS0:(fun W:World=>Bx W gx_ #[.int .u64 (xn:Int),.slice xda xdl xdc,.slice xpa xpl xpc]∧W.rangeAt b (off+k*5) [.int .i64 no,.int .i64 kd,.int .u64 l,.int .u64 mo,.slice so sn sc]) w2:=⟨⟨_,rX⟩,hsw⟩
    refine wp_region_held (S:=fun W:World=>Bx W gx_ #[.int .u64 (xn:Int),.slice xda xdl xdc,.slice xpa xpl xpc]∧W.rangeAt b (off+k*5) [.int .i64 no,.int .i64 kd,.int .u64 l,.int .u64 mo,.slice so sn sc]) (by kernel_rfl) ?_
    change wpAnyH _ _ _ _ _ _ _ _ (World.drew _)
    have hbd:Below w2.heap.size w2 w2.drew:=below_drN (Below.refl _ _) 1
    replace hS0:(fun W:World=>Bx W gx_ #[.int .u64 (xn:Int),.slice xda xdl xdc,.slice xpa xpl xpc]∧W.rangeAt b (off+k*5) [.int .i64 no,.int .i64 kd,.int .u64 l,.int .u64 mo,.slice so sn sc]) w2.drew:=⟨hS0.1.keep hbd,rangeS_keep2 hS0.2 hbd (Nat.lt_of_lt_of_le hblt (by have:=hS0.1.lt;omega))⟩
    replace hb:=Below.after hb hbd;replace hF:=hF.keep hbd;replace rV:Bx w2.drew w.heap.size #[.int .u64 (n:Int),.slice da dl dc,.slice (some ⟨pb,poff,none⟩) ts.length pc]:=rV.keep hbd;clear hbd rX hsw
    generalize w2.drew=w3 at *
    have hS3:=hide hS0;have H1:=hide hb;have H2:=hide rV;have H3:=hide hF;replace hb:Below w3.heap.size w3 w3:=Below.refl _ _;clear rV hF;refine wTy 0 ?v1 rfl ?y1 hS0 ?r1
    case y1=>
     intro w_ hS_;go_simp
     try with_reducible rfl
    try simp only[Act.put,ZPa,ZPc,ZPd,ZPe,ZPf]
    refine wTy 1 ?v2 rfl ?y2 hS0 ?r2
    case y2=>
     intro w_ hS_;go_simp
     try with_reducible rfl
    try simp only[Act.put,ZPa,ZPb,ZPc,ZPd,ZPe,ZPf]
    refine wTy 2 ?v3 rfl ?y3 hS0 ?r3
    case y3=>
     intro w_ hS_;go_simp
     try with_reducible rfl
    try simp only[Act.put,ZPa,ZPb,ZPc,ZPd,ZPe,ZPf]
    refine wTy 3 ?v4 rfl ?y4 hS0 ?r4
    case y4=>
     intro w_ hS_;go_simp
     try with_reducible rfl
    try simp only[Act.put,ZPa,ZPb,ZPc,ZPd,ZPe,ZPf]
    refine wTy 4 (.int .i64 no) rfl ?y5 hS0 ?r5
    case y5=>
     intro w_ hS_;have c_:w_.cell? ⟨b,off+k*5,none⟩=_:=hS_.2 0 _ rfl;go_simp
     try with_reducible rfl
    try simp only[Act.put,ZPa,ZPb,ZPc,ZPd,ZPe,ZPf]
    refine wTy 5 ?v6 rfl ?y6 hS0 ?r6
    case y6=>
     intro w_ hS_;go_simp
     try with_reducible rfl
    try simp only[Act.put,ZPa,ZPb,ZPc,ZPd,ZPe,ZPf]
    refine wTy 6 ?v7 rfl ?y7 hS0 ?r7
    case y7=>
     intro w_ hS_;go_simp
     try with_reducible rfl
    try simp only[Act.put,ZPa,ZPb,ZPc,ZPd,ZPe,ZPf]
    refine wTy 7 ?v8 rfl ?y8 hS0 ?r8
    case y8=>
     intro w_ hS_;go_simp
     try with_reducible rfl
    try simp only[Act.put,ZPa,ZPb,ZPc,ZPd,ZPe,ZPf]
    refine wTy 8 ?v9 rfl ?y9 hS0 ?r9
    case y9=>
     intro w_ hS_;go_simp
     try with_reducible rfl
    try simp only[Act.put,ZPa,ZPb,ZPc,ZPd,ZPe,ZPf]
    refine wTy 9 (.int .i64 kd) rfl ?y10 hS0 ?r10
    case y10=>
     intro w_ hS_;have c_:w_.cell? ⟨b,off+k*5+1,none⟩=_:=hS_.2 1 _ rfl;go_simp
     try with_reducible rfl
    try simp only[Act.put,ZPa,ZPb,ZPc,ZPd,ZPe,ZPf]
    refine wTy 11 ?v11 rfl ?y11 hS0 ?r11
    case y11=>
     intro w_ hS_;go_simp
     try with_reducible rfl
    try simp only[Act.put,ZPa,ZPb,ZPc,ZPd,ZPe,ZPf]
    refine wTy 12 (.int .u64 (xn:Int)) rfl ?y12 hS0 ?r12
    case y12=>
     intro w_ hS_;obtain⟨_,h_⟩:=hS_.1;have c_:=cell_of_row _ _ 0 _ _ _ h_;go_simp
     try with_reducible rfl
    try simp only[Act.put,ZPa,ZPb,ZPc,ZPd,ZPe,ZPf]
    refine wTy 13 ?v13 rfl ?y13 hS0 ?r13
    case y13=>
     intro w_ hS_;go_simp
     try with_reducible rfl
    try simp only[Act.put,ZPa,ZPb,ZPc,ZPd,ZPe,ZPf]
    refine wTy 14 (.slice xda xdl xdc) rfl ?y14 hS0 ?r14
    case y14=>
     intro w_ hS_;obtain⟨_,h_⟩:=hS_.1;have c_:=cell_of_row _ _ 1 _ _ _ h_;go_simp
     try with_reducible rfl
    try simp only[Act.put,ZPa,ZPb,ZPc,ZPd,ZPe,ZPf]
    apply ecut (fun(gf:Nat) (W:World)=>Below w3.heap.size w3 W∧W.heap[gf]? =some (.cells #[.int .i64 no,.int .i64 wk,.int .u64 (xn:Int),.slice xda xdl xdc] 118 (0,0))∧w3.heap.size≤gf)
    ·intro hT_
     refine wpAnyH_two (j:=10) (k:=16) (fuel:=3) (by kernel_rfl) rfl rfl (by kernel_rfl) (by kernel_rfl) (fun K_ hK=>?_) (fun K_ hK=>?_)
     ·have cX:=(cT.out.at w3).mono (fun e w' h=>(⟨_,h.1,rfl,h.2⟩:∃v,e=.returned v∧v=.int .i64 wk∧Below w3.heap.size w3 w'))
      refine wp_call_ex (R:=fun v w'=>v=.int .i64 wk∧Below w3.heap.size w3 w') (by kernel_rfl) cX (fun v_ w4 hX_=>?_)
      obtain⟨rfl,hbx⟩:=hX_
      replace hS0:(fun W:World=>Bx W gx_ #[.int .u64 (xn:Int),.slice xda xdl xdc,.slice xpa xpl xpc]∧W.rangeAt b (off+k*5) [.int .i64 no,.int .i64 kd,.int .u64 l,.int .u64 mo,.slice so sn sc]) w4:=⟨hS0.1.keep hbx,rangeS_keep2 hS0.2 hbx (Nat.lt_of_lt_of_le hblt (by have:=hS0.1.lt;omega))⟩
      replace hb:=Below.after hb hbx;refine hK _ _ hS0 ?_;simp only[Act.put,ZPa,ZPb,ZPc,ZPd,ZPe,ZPf];clear hK;clear cX hbx;refine wTy 15 (.agg #[.int .i64 no,.int .i64 wk,.int .u64 (xn:Int),.slice xda xdl xdc]) rfl ?y15 hS0 ?r15
      case y15=>
       intro w_ hS_;go_simp
       try with_reducible rfl
      try simp only[Act.put,ZPa,ZPb,ZPc,ZPd,ZPe,ZPf]
      refine wpAnyH_one (k:=16) (fuel:=1) (by kernel_rfl) rfl (by kernel_rfl) (fun K_ hK=>?_)
      refine wp_val_op (.pointer (some ⟨w4.heap.size,0,none⟩)) (w':=w4.alloc (.cells #[.int .i64 0,.int .i64 0,.int .u64 0,nS] 118)) (by kernel_rfl) ?_
      have hba:Below w4.heap.size w4 (w4.alloc (.cells #[.int .i64 0,.int .i64 0,.int .u64 0,nS] 118)):=(Below.refl _ _).alloc (Nat.le_refl _) _;have rG:=hp1_0 w4 (.cells #[.int .i64 0,.int .i64 0,.int .u64 0,nS] 118);have hgl:gx_<w4.heap.size:=hS0.1.lt;have hg3:w3.heap.size≤w4.heap.size:=hb.size
      replace hS0:(fun W:World=>Bx W gx_ #[.int .u64 (xn:Int),.slice xda xdl xdc,.slice xpa xpl xpc]∧W.rangeAt b (off+k*5) [.int .i64 no,.int .i64 kd,.int .u64 l,.int .u64 mo,.slice so sn sc]) (w4.alloc (.cells #[.int .i64 0,.int .i64 0,.int .u64 0,nS] 118)):=⟨hS0.1.keep hba,rangeS_keep2 hS0.2 hba (Nat.lt_of_lt_of_le hblt (by have:=hS0.1.lt;omega))⟩
      replace hb:=Below.after hb hba;refine hK _ _ hS0 ?_;simp only[Act.put,ZPa,ZPb,ZPc,ZPd,ZPe,ZPf];clear hK;clear hba
      generalize w4.alloc (.cells #[.int .i64 0,.int .i64 0,.int .u64 0,nS] 118)=w5 at *
      generalize hgfe:w4.heap.size=gf at rG⊢
      replace hg3:w3.heap.size≤gf:=by omega
      replace hgl:gx_<gf:=by omega
      clear hgfe
      have hone2:(#[.int .i64 no,.int .i64 wk,.int .u64 (xn:Int),.slice xda xdl xdc]:Array Value).all (·.oneCell')=true:=by simp[Value.oneCell']
      refine wpAnyH_one (k:=17) (fuel:=0) (by kernel_rfl) rfl (by kernel_rfl) (fun K_ hK=>?_)
      refine wp_store_row 118 _ _ rfl gf #[.int .i64 no,.int .i64 wk,.int .u64 (xn:Int),.slice xda xdl xdc] rfl rfl 118 _ rG infoFi rfl hone2 ?_;have rG5:=setRow_heap w5 gf _ #[.int .i64 no,.int .i64 wk,.int .u64 (xn:Int),.slice xda xdl xdc] _ _ rG
      have hb5:=below_setRow (g:=gf) hb (by omega) #[.int .i64 no,.int .i64 wk,.int .u64 (xn:Int),.slice xda xdl xdc]
      have hS5:(fun W:World=>Bx W gx_ #[.int .u64 (xn:Int),.slice xda xdl xdc,.slice xpa xpl xpc]∧W.rangeAt b (off+k*5) [.int .i64 no,.int .i64 kd,.int .u64 l,.int .u64 mo,.slice so sn sc]) (w5.setRow gf #[.int .i64 no,.int .i64 wk,.int .u64 (xn:Int),.slice xda xdl xdc]):=⟨hS0.1.row (by omega),range_same hS0.2 (setRow_other w5 gf b _ (by omega))⟩
      refine hK _ _ hS5 ?_;simp only[Act.put,ZPa,ZPb,ZPc];clear hK hS0 hS5 rG hb
      generalize w5.setRow gf #[.int .i64 no,.int .i64 wk,.int .u64 (xn:Int),.slice xda xdl xdc]=w6 at *
      refine wpAnyH_done (by kernel_rfl) ?_ _
      exact hT_ gf w6 ⟨hb5,rG5,hg3⟩
     ·refine wp_val_op (.pointer (some ⟨w3.heap.size,0,none⟩)) (w':=w3.alloc (.cells #[.int .i64 0,.int .i64 0,.int .u64 0,nS] 118)) (by kernel_rfl) ?_
      have hba:Below w3.heap.size w3 (w3.alloc (.cells #[.int .i64 0,.int .i64 0,.int .u64 0,nS] 118)):=(Below.refl _ _).alloc (Nat.le_refl _) _
      have rG:=hp1_0 w3 (.cells #[.int .i64 0,.int .i64 0,.int .u64 0,nS] 118);have hgl:gx_<w3.heap.size:=hS0.1.lt;have hg3:w3.heap.size≤w3.heap.size:=hb.size
      replace hS0:(fun W:World=>Bx W gx_ #[.int .u64 (xn:Int),.slice xda xdl xdc,.slice xpa xpl xpc]∧W.rangeAt b (off+k*5) [.int .i64 no,.int .i64 kd,.int .u64 l,.int .u64 mo,.slice so sn sc]) (w3.alloc (.cells #[.int .i64 0,.int .i64 0,.int .u64 0,nS] 118)):=⟨hS0.1.keep hba,rangeS_keep2 hS0.2 hba (Nat.lt_of_lt_of_le hblt (by have:=hS0.1.lt;omega))⟩
      replace hb:=Below.after hb hba;refine hK _ _ hS0 ?_;simp only[Act.put,ZPa,ZPb,ZPc,ZPd,ZPe,ZPf];clear hK;clear hba
      generalize w3.alloc (.cells #[.int .i64 0,.int .i64 0,.int .u64 0,nS] 118)=w4 at *
      generalize hgfe:w3.heap.size=gf at rG⊢
      replace hg3:w3.heap.size≤gf:=by omega
      replace hgl:gx_<gf:=by omega
      clear hgfe
      refine wpAnyH_one (k:=10) (fuel:=2) (by kernel_rfl) rfl (by kernel_rfl) (fun K_ hK=>?_)
      have cX:=(cT.out.at w4).mono (fun e w' h=>(⟨_,h.1,rfl,h.2⟩:∃v,e=.returned v∧v=.int .i64 wk∧Below w4.heap.size w4 w'))
      refine wp_call_ex (R:=fun v w'=>v=.int .i64 wk∧Below w4.heap.size w4 w') (by kernel_rfl) cX (fun v_ w5 hX_=>?_)
      obtain⟨rfl,hbx⟩:=hX_
      replace hS0:(fun W:World=>Bx W gx_ #[.int .u64 (xn:Int),.slice xda xdl xdc,.slice xpa xpl xpc]∧W.rangeAt b (off+k*5) [.int .i64 no,.int .i64 kd,.int .u64 l,.int .u64 mo,.slice so sn sc]) w5:=⟨hS0.1.keep hbx,rangeS_keep2 hS0.2 hbx (Nat.lt_of_lt_of_le hblt (by have:=hS0.1.lt;omega))⟩
      replace hb:=Below.after hb hbx;replace rG:=keep hbx rG;refine hK _ _ hS0 ?_;simp only[Act.put,ZPa,ZPb,ZPc,ZPd,ZPe,ZPf];clear hK;clear cX hbx;refine wTy 15 (.agg #[.int .i64 no,.int .i64 wk,.int .u64 (xn:Int),.slice xda xdl xdc]) rfl ?y16 hS0 ?r16
      case y16=>
       intro w_ hS_;go_simp
       try with_reducible rfl
      try simp only[Act.put,ZPa,ZPb,ZPc,ZPd,ZPe,ZPf]
      have hone2:(#[.int .i64 no,.int .i64 wk,.int .u64 (xn:Int),.slice xda xdl xdc]:Array Value).all (·.oneCell')=true:=by simp[Value.oneCell']
      refine wpAnyH_one (k:=17) (fuel:=0) (by kernel_rfl) rfl (by kernel_rfl) (fun K_ hK=>?_)
      refine wp_store_row 118 _ _ rfl gf #[.int .i64 no,.int .i64 wk,.int .u64 (xn:Int),.slice xda xdl xdc] rfl rfl 118 _ rG infoFi rfl hone2 ?_;have rG5:=setRow_heap w5 gf _ #[.int .i64 no,.int .i64 wk,.int .u64 (xn:Int),.slice xda xdl xdc] _ _ rG
      have hb5:=below_setRow (g:=gf) hb (by omega) #[.int .i64 no,.int .i64 wk,.int .u64 (xn:Int),.slice xda xdl xdc]
      have hS5:(fun W:World=>Bx W gx_ #[.int .u64 (xn:Int),.slice xda xdl xdc,.slice xpa xpl xpc]∧W.rangeAt b (off+k*5) [.int .i64 no,.int .i64 kd,.int .u64 l,.int .u64 mo,.slice so sn sc]) (w5.setRow gf #[.int .i64 no,.int .i64 wk,.int .u64 (xn:Int),.slice xda xdl xdc]):=⟨hS0.1.row (by omega),range_same hS0.2 (setRow_other w5 gf b _ (by omega))⟩
      refine hK _ _ hS5 ?_;simp only[Act.put,ZPa,ZPb,ZPc];clear hK hS0 hS5 rG hb
      generalize w5.setRow gf #[.int .i64 no,.int .i64 wk,.int .u64 (xn:Int),.slice xda xdl xdc]=w6 at *
      refine wpAnyH_done (by kernel_rfl) ?_ _
      exact hT_ gf w6 ⟨hb5,rG5,hg3⟩
    ·rintro gf w6 ⟨hb6,rG,hgf⟩
     have hb:=Below.after H1.out hb6
     have rV:=H2.out.keep hb6;have hF:=H3.out.keep hb6;have hSx:=hS3.out.1.keep hb6;have hg3x:gx_<w3.heap.size:=hS3.out.1.lt
     have hSs:=rangeS_keep2 hS3.out.2 hb6 (by omega)
     have cK:w6.cell? ⟨b,off+k*5+1,none⟩=some (.int .i64 kd):=hSs 1 _ rfl;clear hS0 hS3 cT
     by_cases h8:kd=8
     ·subst h8
      have hfp:=hp8.out rfl
      have hst2:=hst.out;rw[hfp] at hst2;have hwf:=hw8.out.1 rfl;have hcl:=hsb.out (.inl rfl) (.slice so sn sc) ⟨xn,xda,xdl,xdc,xpa,xpl,xpc⟩ Zk;have hEl0:(enT sub Zk).length≤4194304:=eout_len _
      generalize enT sub Zk=E at *
      have hEl:=hide hEl0;clear hEl0
      have hcl2:=hide (fun V (hV:Below w.heap.size w V)=>hcl V hV (hu.out.keep hV) (hvz.out.blw hV) hwf.1 hwf.2 (hl8.out.1 rfl))
      have hFok:Fok ⟨no,wk,0,E⟩:=⟨by show(0:Nat)<_;omega,by show E.length≤_;have:=hEl.out;omega,hfo1.out.2.2.1,hfo1.out.2.2.2⟩
      replace hst:=hide hst2;clear hcl hpf hp8 hp9 hw8 hl8 hsb hst2 hfp hwf hbk;have r9:=setRow_heap w6 gf _ (#[.int .i64 no,.int .i64 wk,.int .u64 0,.slice xda xdl xdc]:Array Value) _ _ rG;have hb9:=below_setRow (g:=gf) hb6 hgf (#[.int .i64 no,.int .i64 wk,.int .u64 0,.slice xda xdl xdc]:Array Value)
      have hS0:(fun W:World=>Bx W gx_ #[.int .u64 (xn:Int),.slice xda xdl xdc,.slice xpa xpl xpc]∧W.rangeAt b (off+k*5) [.int .i64 no,.int .i64 8,.int .u64 l,.int .u64 mo,.slice so sn sc]) (w6.setRow gf #[.int .i64 no,.int .i64 wk,.int .u64 0,.slice xda xdl xdc]):=⟨hSx.row (by omega),range_same hSs (setRow_other w6 gf b _ (by omega))⟩
      have R1:=hide r9;have R2:=hide hb9;have R3:=hide hS0;clear hb rV hF hSx hSs r9 hb9 hS0
      go_wp2_with (first|(refine wpList_store_c9 rfl 23 _ _ rfl gf 2 (.int .u64 0) rfl rfl 118 _ #[.int .i64 no,.int .i64 wk,.int .u64 0,.slice xda xdl xdc] rG (Nat.lt_of_lt_of_le (by decide:2<4) (Nat.le_refl _)) rfl infoU9 rfl ?_)|fail)
      replace rG:=R1.out;replace hb6:=R2.out;have hS0:=R3.out;clear R1 R2 R3 cK
      generalize w6.setRow gf #[.int .i64 no,.int .i64 wk,.int .u64 0,.slice xda xdl xdc]=w9 at *
      refine wp_region_held (S:=fun W:World=>Bx W gx_ #[.int .u64 (xn:Int),.slice xda xdl xdc,.slice xpa xpl xpc]∧W.rangeAt b (off+k*5) [.int .i64 no,.int .i64 8,.int .u64 l,.int .u64 mo,.slice so sn sc]) (by kernel_rfl) ?_
      change wpAnyH _ _ _ _ _ _ _ _ (World.drew _)
      have hbd:Below w9.heap.size w9 w9.drew:=below_drN (Below.refl _ _) 1
      replace hS0:(fun W:World=>Bx W gx_ #[.int .u64 (xn:Int),.slice xda xdl xdc,.slice xpa xpl xpc]∧W.rangeAt b (off+k*5) [.int .i64 no,.int .i64 8,.int .u64 l,.int .u64 mo,.slice so sn sc]) w9.drew:=⟨hS0.1.keep hbd,rangeS_keep2 hS0.2 hbd (Nat.lt_of_lt_of_le hblt (by have:=hS0.1.lt;omega))⟩
      replace hb6:=Below.after hb6 hbd;replace rG:=keep hbd rG;clear hbd
      generalize w9.drew=w10 at *
      refine wTy 0 ?v17 rfl ?y17 hS0 ?r17
      case y17=>
       intro w_ hS_;go_simp
       try with_reducible rfl
      try simp only[Act.put,ZPa,ZPc,ZPd,ZPe,ZPf]
      refine wTy 1 ?v18 rfl ?y18 hS0 ?r18
      case y18=>
       intro w_ hS_;go_simp
       try with_reducible rfl
      try simp only[Act.put,ZPa,ZPb,ZPc,ZPd,ZPe,ZPf]
      refine wTy 2 ?v19 rfl ?y19 hS0 ?r19
      case y19=>
       intro w_ hS_;go_simp
       try with_reducible rfl
      try simp only[Act.put,ZPa,ZPb,ZPc,ZPd,ZPe,ZPf]
      refine wTy 3 ?v20 rfl ?y20 hS0 ?r20
      case y20=>
       intro w_ hS_;go_simp
       try with_reducible rfl
      try simp only[Act.put,ZPa,ZPb,ZPc,ZPd,ZPe,ZPf]
      refine wTy 4 (.slice so sn sc) rfl ?y21 hS0 ?r21
      case y21=>
       intro w_ hS_;have c_:w_.cell? ⟨b,off+k*5+4,none⟩=_:=hS_.2 4 _ rfl;go_simp
       try with_reducible rfl
      try simp only[Act.put,ZPa,ZPb,ZPc,ZPd,ZPe,ZPf]
      refine wTk (i:=5) (v:=.agg #[.int .u64 (xn:Int),.slice xda xdl xdc,.slice xpa xpl xpc]) rfl (yieldsIf_load_mid (by rfl) 27 _ rfl gx_ 0 rfl [.int .u64 (xn:Int),.slice xda xdl xdc,.slice xpa xpl xpc] _ (fun _ h=>h.1.range) Tryz.underlying27 rfl infoV) hS0 ?_
      simp only[Act.put,ZPa,ZPb,ZPc,ZPd,ZPe,ZPf];have hs10:=hb6.size;have hg10:=lt_of_row rG
      refine wpAnyH_one (k:=6) (fuel:=2) (by kernel_rfl) rfl (by kernel_rfl) (fun K_ hK=>?_)
      have cX:=hcl2.out w10 (Below.after H1.out hb6)
      refine wp_call_ex (R:=fun v w'=>Own w' w10.heap.size v E∧Below w10.heap.size w10 w') (by kernel_rfl) cX (fun v_ w11 hX_=>?_)
      obtain⟨hU,hbx⟩:=hX_;obtain⟨ua,uc,rfl,hBd,hub⟩:=own_told9 hU hEl
      replace hS0:(fun W:World=>Bx W gx_ #[.int .u64 (xn:Int),.slice xda xdl xdc,.slice xpa xpl xpc]∧W.rangeAt b (off+k*5) [.int .i64 no,.int .i64 8,.int .u64 l,.int .u64 mo,.slice so sn sc]) w11:=⟨hS0.1.keep hbx,rangeS_keep2 hS0.2 hbx (Nat.lt_of_lt_of_le hblt (by have:=hS0.1.lt;omega))⟩
      replace hb6:=Below.after hb6 hbx;replace rG:=keep hbx rG;refine hK _ _ hS0 ?_;simp only[Act.put,ZPa,ZPb,ZPc,ZPd,ZPe,ZPf];clear hK cX hU;refine wTy 7 ?v22 rfl ?y22 hS0 ?r22
      case y22=>
       intro w_ hS_;go_simp
       try with_reducible rfl
      try simp only[Act.put,ZPa,ZPb,ZPc,ZPd,ZPe,ZPf]
      refine wpAnyH_one (k:=8) (fuel:=0) (by kernel_rfl) rfl (by kernel_rfl) (fun K_ hK=>?_)
      have r12:=setRow_heap w11 gf _ (#[.int .i64 no,.int .i64 wk,.int .u64 0,.slice ua E.length uc]:Array Value) _ _ rG;have hb12:=below_setRow (g:=gf) hb6 hgf (#[.int .i64 no,.int .i64 wk,.int .u64 0,.slice ua E.length uc]:Array Value);have hs12:=(below_setRow (g:=gf) (Below.refl gf w11) (Nat.le_refl gf) (#[.int .i64 no,.int .i64 wk,.int .u64 0,.slice ua E.length uc]:Array Value)).size
      have hBd2:=bysB_move (V:=w11.setRow gf #[.int .i64 no,.int .i64 wk,.int .u64 0,.slice ua E.length uc]) hBd hs12 (fun a ea=>setRow_other w11 gf a.block _ (by have:=hub a ea;omega))
      have hS12:(fun W:World=>Bx W gx_ #[.int .u64 (xn:Int),.slice xda xdl xdc,.slice xpa xpl xpc]∧W.rangeAt b (off+k*5) [.int .i64 no,.int .i64 8,.int .u64 l,.int .u64 mo,.slice so sn sc]) (w11.setRow gf #[.int .i64 no,.int .i64 wk,.int .u64 0,.slice ua E.length uc]):=⟨hS0.1.row (by omega),range_same hS0.2 (setRow_other w11 gf b _ (by omega))⟩
      refine wp_store_c9 24 _ _ rfl gf 3 (.slice ua E.length uc) rfl rfl 118 _ #[.int .i64 no,.int .i64 wk,.int .u64 0,.slice ua E.length uc] rG (Nat.lt_of_lt_of_le (by decide:3<4) (Nat.le_refl _)) rfl infoBs9 rfl ?_
      refine hK _ _ hS12 ?_;simp only[Act.put,ZPa,ZPb,ZPc];clear hK hS12 hS0 rG hb6 hBd
      generalize w11.setRow gf #[.int .i64 no,.int .i64 wk,.int .u64 0,.slice ua E.length uc]=w12 at *
      refine wpAnyH_done (by kernel_rfl) ?_ _
      have hb:=Below.after H1.out hb12;have rV:=H2.out.keep hb12;have hF:=H3.out.keep hb12;have hBd:=hBd2;have rG:=r12
      have hblk:∀a,lv E.length ua=some a→a.block<w12.heap.size∧(Value.slice mo_ k mc).ownBlock≠some a.block:=fun a ea=>⟨by have:=(hub a ea).1;omega,fun e=>by have:=(A8.out _ e).2;have:=(hub a ea).2;omega⟩
      clear hBd2 r12 hb12;have hba:Below w12.heap.size w12 (w12.alloc (.cells #[.int .i64 no,.int .i64 wk,.int .u64 0,.slice ua E.length uc] 118)):=(Below.refl _ _).alloc (Nat.le_refl _) _;have r7:=hp1_0 w12 (.cells #[.int .i64 no,.int .i64 wk,.int .u64 0,.slice ua E.length uc] 118);have hF7:=hF.keep hba;have hOk:=hF7.1;rw[hfl.out] at hOk;have hBd7:=hBd.keep hba
      have hnews:∀j y,(#[.int .i64 no,.int .i64 wk,.int .u64 0,.slice ua E.length uc]:Array Value).toList[j]? =some y→(w12.alloc (.cells #[.int .i64 no,.int .i64 wk,.int .u64 0,.slice ua E.length uc] 118)).cell? ((⟨w12.heap.size,0,none⟩:Addr).add j)=some y:=fun j y hy=>by rw[add_off,cell_of_row _ _ _ _ _ _ r7];simpa using hy
      have B1:=hide (Below.after hb hba);have B2:=hide (rV.keep hba);have hbs:w.heap.size≤(w12.alloc (.cells #[.int .i64 no,.int .i64 wk,.int .u64 0,.slice ua E.length uc] 118)).heap.size:=B1.out.size;have hbs6:=hba.size
      have hone3:∀u∈(#[.int .i64 no,.int .i64 wk,.int .u64 0,.slice ua E.length uc]:Array Value).toList,Value.oneCell' u=true:=by simp[Value.oneCell']
      have B5:=hide hF7;have B6:=hide hBd7;clear hb rV hba r7 hF hF7 hBd hBd7
      go_wp2_with (first|(refine wpList_load_want rfl 118 _ rfl gf rfl 118 _ (0,0) _ rG Tryz.underlying118 rfl infoFi ?_)|(at_builtin;refine wpList_append_f9 rfl (.tmp 85) (.tmp 87) rfl w.heap.size _ k _ rfl hOk (by omega) (#[.int .i64 no,.int .i64 wk,.int .u64 0,.slice ua E.length uc]:Array Value).toList rfl w12.heap.size rfl hnews hone3 hbs ?_)|fail)
      intro v' w17 h1 h2 h3
      have hF8:=B5.out.snoc B6.out hFok (fun a ea=>⟨by have:=(hblk a ea).1;omega,(hblk a ea).2⟩) (by rw[hfl.out];exact h1) h2 h3
      have hB7:Below w.heap.size w w17:=B1.out.grown h2 hbs (fun q hq=>(A8.out q hq).1)
      have rV7:Bx w17 w.heap.size _:=B2.out.same (h2.block _ B2.out.lt (fun e=>A9.out e.symm))
      have hne7:v'.ownBlock≠some w.heap.size:=fun e=>by
       rcases h3 with q|⟨q,q1,q2⟩
       ·exact A9.out (q.symm.trans e)
       ·rw[q1] at e
        injection e with e
        have:=B2.out.lt;omega
      obtain⟨vo,vc,rfl⟩:=own_slice h1;have C1:=hide hF8;have C2:=hide hB7;have C3:=hide hne7;have C4:=hide rV7;clear h1 h2 h3 hF8 hB7 hne7 rV7 hOk hnews B1 B2 B5 B6 rG
      go_wp2_with (fail)
      refine⟨⟨k+1,us2++[.slice ua E.length uc],by omega,by go_num,by rw[hst.out];exact C1.out,C2.out,C4.out,C3.out⟩,?_⟩
      simp[intOf];omega
     ·by_cases h9:kd=9
      ·subst h9
       have hs36:=hb6.size
       have hst2:=hst.out;have hl9:=hl8.out.2 rfl;rw[hp9.out rfl hl9.1,←hnum.out] at hst2;have hwf:=hw8.out.2 rfl
       have hcl:=fun y Y=>hsb.out (.inr rfl) (.slice so sn sc) y Y
       obtain⟨ys,hP2⟩:=hvz.out.split
       replace hP2:PtM w (fun b=>b<L) (.slice xpa xpl xpc) ys Zk.parts:=hP2
       have hel:=hide (fun Z=>(show(enT sub Z).length≤4194304 from eout_len (fdT sub Z.parts)))
       have hFok:Fok ⟨no,wk,xn,jout (Zk.parts.map (enT sub))⟩:=⟨hfo1.out.1,by show(jout (Zk.parts.map (enT sub))).length≤_;have:=jout_len (Zk.parts.map (enT sub));omega,hfo1.out.2.2.1,hfo1.out.2.2.2⟩
       generalize enT sub=enc at *
       generalize Zk.parts=qs at *
       obtain⟨qa,qc,eq,hyl,hqc,hqm,hqr,hqv⟩:=hP2
       injection eq with e1 e2 e3
       subst e1 e2 e3
       have hme:∀m,m<qs.length→gvt qs m∈qs:=fun m hm=>by rw[gvt,List.getD_eq_getElem?_getD,List.getElem?_eq_getElem hm];exact List.getElem_mem hm
       have hcl2:=hide (fun(m:Nat) (hm:m<qs.length) V (hV:Below w.heap.size w V)=>hcl (gx ys m) (gvt qs m) V hV (hu.out.keep hV) ((hqv m hm).blw hV) (hwf _ (hme m hm)).1 (hwf _ (hme m hm)).2 (hl9.2 _ (hme m hm)))
       replace hqr:=hide hqr;replace hst:=hide hst2;clear hcl hpf hp8 hp9 hw8 hl8 hl9 hsb hst2 hwf hbk hme hqv hvz hu
       go_wp2_with (fail)
       go_loopw [10,9] (fun j it wr=>∃(m:Nat) (vs:List Value),m≤qs.length∧j=.int .i64 m∧Its wr w6.heap.size it vs ((qs.take m).map enc)∧Below w6.heap.size w6 wr) (fun j _ _=>qs.length-(intOf j).toNat)
       case atStart=>exact⟨0,[],by omega,rfl,its_nil _ _,Below.refl _ _⟩
       case round=>
        obtain⟨m,vs,hm,rfl,hI,hbi⟩:=hrel;obtain⟨io,ic,rfl⟩:=own_slice hI.1
        have hul:vs.length=m:=by rw[hI.2.1,List.length_map,List.length_take];omega
        replace hul:=hide hul;have hSxi:=hSx.keep hbi
        have hSsi:=rangeS_keep2 hSs hbi (by have:=hSx.lt;omega)
        have c2:wr.cell? ⟨gx_,2,none⟩=some (.slice xpa qs.length xpc):=by
         obtain⟨_,h_⟩:=hSxi;rw[cell_of_row _ _ _ _ _ _ h_];rfl
        clear cK
        by_cases hlm:m<qs.length
        ·have hd2:decide ((m:Int)<(qs.length:Int))=true:=by simp;omega
         have hd3:(m:Int)<(qs.length:Int):=by omega
         obtain⟨qb,qoff,rfl,hqb,hqra⟩:=hqr.out m hlm;have hqw:=rangeS_keep2 hqra (Below.after hb hbi) hqb;have cC:=hcl2.out m hlm
         have hlen5:((qs.take m).map enc).length≤5864062014634:=by rw[List.length_map,List.length_take];omega
         have hmap:(qs.take (m+1)).map enc=(qs.take m).map enc++[enc (gvt qs m)]:=by
          rw[List.take_add_one,List.map_append,List.getElem?_eq_getElem hlm]
          simp[gvt,List.getD_eq_getElem?_getD,List.getElem?_eq_getElem hlm]
         replace hmap:=hide hmap
         generalize enc (gvt qs m)=E at *
         generalize gx ys m=y at *
         obtain⟨yn,yda,ydl,ydc,ypa,ypl,ypc⟩:=y;unfold vrv vrw at hqw;clear hqra hqr hel hcl2
         go_wp2_with (fail)
         clear c2
         have hS0:(fun W:World=>Bx W gx_ #[.int .u64 (xn:Int),.slice xda xdl xdc,.slice (some ⟨qb,qoff,none⟩) qs.length xpc]∧W.rangeAt b (off+k*5) [.int .i64 no,.int .i64 9,.int .u64 l,.int .u64 mo,.slice so sn sc]∧W.rangeAt qb (qoff+m*3) [.int .u64 (yn:Int),.slice yda ydl ydc,.slice ypa ypl ypc]) wr:=⟨hSxi,hSsi,hqw⟩
         refine wp_region_held (S:=fun W:World=>Bx W gx_ #[.int .u64 (xn:Int),.slice xda xdl xdc,.slice (some ⟨qb,qoff,none⟩) qs.length xpc]∧W.rangeAt b (off+k*5) [.int .i64 no,.int .i64 9,.int .u64 l,.int .u64 mo,.slice so sn sc]∧W.rangeAt qb (qoff+m*3) [.int .u64 (yn:Int),.slice yda ydl ydc,.slice ypa ypl ypc]) (by kernel_rfl) ?_
         change wpAnyH _ _ _ _ _ _ _ _ (World.drew _)
         have hbd:Below wr.heap.size wr wr.drew:=below_drN (Below.refl _ _) 1
         replace hS0:(fun W:World=>Bx W gx_ #[.int .u64 (xn:Int),.slice xda xdl xdc,.slice (some ⟨qb,qoff,none⟩) qs.length xpc]∧W.rangeAt b (off+k*5) [.int .i64 no,.int .i64 9,.int .u64 l,.int .u64 mo,.slice so sn sc]∧W.rangeAt qb (qoff+m*3) [.int .u64 (yn:Int),.slice yda ydl ydc,.slice ypa ypl ypc]) wr.drew:=⟨hS0.1.keep hbd,rangeS_keep2 hS0.2.1 hbd (Nat.lt_of_lt_of_le hblt (by have:=hS0.1.lt;omega)),rangeS_keep2 hS0.2.2 hbd (Nat.lt_of_lt_of_le hqb (by have:=hS0.1.lt;omega))⟩
         replace hbi:=Below.after hbi hbd;replace hI:=hI.keep hbd;clear hbd hSxi hSsi hqw
         generalize wr.drew=w20 at *
         refine wTy 0 ?v23 rfl ?y23 hS0 ?r23
         case y23=>
          intro w_ hS_;go_simp
          try with_reducible rfl
         try simp only[Act.put,ZPa,ZPc,ZPd,ZPe,ZPf]
         refine wTy 1 ?v24 rfl ?y24 hS0 ?r24
         case y24=>
          intro w_ hS_;go_simp
          try with_reducible rfl
         try simp only[Act.put,ZPa,ZPb,ZPc,ZPd,ZPe,ZPf]
         refine wTy 2 ?v25 rfl ?y25 hS0 ?r25
         case y25=>
          intro w_ hS_;go_simp
          try with_reducible rfl
         try simp only[Act.put,ZPa,ZPb,ZPc,ZPd,ZPe,ZPf]
         refine wTy 3 ?v26 rfl ?y26 hS0 ?r26
         case y26=>
          intro w_ hS_;go_simp
          try with_reducible rfl
         try simp only[Act.put,ZPa,ZPb,ZPc,ZPd,ZPe,ZPf]
         refine wTy 4 ?v27 rfl ?y27 hS0 ?r27
         case y27=>
          intro w_ hS_;go_simp
          try with_reducible rfl
         try simp only[Act.put,ZPa,ZPb,ZPc,ZPd,ZPe,ZPf]
         refine wTy 5 (.slice so sn sc) rfl ?y28 hS0 ?r28
         case y28=>
          intro w_ hS_;have c_:w_.cell? ⟨b,off+k*5+4,none⟩=_:=hS_.2.1 4 _ rfl;go_simp
          try with_reducible rfl
         try simp only[Act.put,ZPa,ZPb,ZPc,ZPd,ZPe,ZPf]
         refine wTy 6 ?v29 rfl ?y29 hS0 ?r29
         case y29=>
          intro w_ hS_;go_simp
          try with_reducible rfl
         try simp only[Act.put,ZPa,ZPb,ZPc,ZPd,ZPe,ZPf]
         refine wTy 7 (.slice (some ⟨qb,qoff,none⟩) qs.length xpc) rfl ?y30 hS0 ?r30
         case y30=>
          intro w_ hS_;obtain⟨_,h_⟩:=hS_.1;have c_:=cell_of_row _ _ 2 _ _ _ h_;go_simp
          try with_reducible rfl
         try simp only[Act.put,ZPa,ZPb,ZPc,ZPd,ZPe,ZPf]
         refine wTy 8 ?v31 rfl ?y31 hS0 ?r31
         case y31=>
          intro w_ hS_;go_simp
          try with_reducible rfl
         try simp only[Act.put,ZPa,ZPb,ZPc,ZPd,ZPe,ZPf]
         refine wTy 9 ?v32 rfl ?y32 hS0 ?r32
         case y32=>
          intro w_ hS_;go_simp
          try with_reducible rfl
         try simp only[Act.put,ZPa,ZPb,ZPc,ZPd,ZPe,ZPf]
         refine wTk (i:=10) (v:=.agg #[.int .u64 (yn:Int),.slice yda ydl ydc,.slice ypa ypl ypc]) rfl (yieldsIf_load_mid (by rfl) 27 _ rfl qb (qoff+m*3) rfl [.int .u64 (yn:Int),.slice yda ydl ydc,.slice ypa ypl ypc] _ (fun _ h=>h.2.2) Tryz.underlying27 rfl infoV) hS0 ?_
         simp only[Act.put,ZPa,ZPb,ZPc,ZPd,ZPe,ZPf]
         refine wpAnyH_one (k:=11) (fuel:=3) (by kernel_rfl) rfl (by kernel_rfl) (fun K_ hK=>?_)
         have cX:=cC w20 (Below.after hb hbi)
         refine wp_call_ex (R:=fun v w'=>Own w' w20.heap.size v E∧Below w20.heap.size w20 w') (by kernel_rfl) cX (fun v_ w21 hX_=>?_)
         obtain⟨hU,hbx⟩:=hX_;obtain⟨ua,uc,rfl⟩:=slen_own hU;have hH:=hI.high;have hs20:=hbi.size
         replace hS0:(fun W:World=>Bx W gx_ #[.int .u64 (xn:Int),.slice xda xdl xdc,.slice (some ⟨qb,qoff,none⟩) qs.length xpc]∧W.rangeAt b (off+k*5) [.int .i64 no,.int .i64 9,.int .u64 l,.int .u64 mo,.slice so sn sc]∧W.rangeAt qb (qoff+m*3) [.int .u64 (yn:Int),.slice yda ydl ydc,.slice ypa ypl ypc]) w21:=⟨hS0.1.keep hbx,rangeS_keep2 hS0.2.1 hbx (Nat.lt_of_lt_of_le hblt (by have:=hS0.1.lt;omega)),rangeS_keep2 hS0.2.2 hbx (Nat.lt_of_lt_of_le hqb (by have:=hS0.1.lt;omega))⟩
         replace hbi:=Below.after hbi hbx;replace hI:=hI.keep hbx;refine hK _ _ hS0 ?_;simp only[Act.put,ZPa,ZPb,ZPc,ZPd,ZPe,ZPf];clear hK cX hbx
         refine wpAnyH_one (k:=12) (fuel:=2) (by kernel_rfl) rfl (by kernel_rfl) (fun K_ hK=>?_)
         refine wp_val_op (.slice (some ⟨w21.heap.size,0,none⟩) 1 1) (w':=w21.alloc (.cells #[.slice ua E.length uc] 24)) (by kernel_rfl) ?_
         have hba:Below w21.heap.size w21 (w21.alloc (.cells #[.slice ua E.length uc] 24)):=(Below.refl _ _).alloc (Nat.le_refl _) _;have r5:=hp1_0 w21 (.cells #[.slice ua E.length uc] 24);have hI5:=hI.keep hba;have hU5:=hU.keep hba;have hbi5:=Below.after hbi hba;have hsz5:=hbi5.size
         replace hS0:(fun W:World=>Bx W gx_ #[.int .u64 (xn:Int),.slice xda xdl xdc,.slice (some ⟨qb,qoff,none⟩) qs.length xpc]∧W.rangeAt b (off+k*5) [.int .i64 no,.int .i64 9,.int .u64 l,.int .u64 mo,.slice so sn sc]∧W.rangeAt qb (qoff+m*3) [.int .u64 (yn:Int),.slice yda ydl ydc,.slice ypa ypl ypc]) (w21.alloc (.cells #[.slice ua E.length uc] 24)):=⟨hS0.1.keep hba,rangeS_keep2 hS0.2.1 hba (Nat.lt_of_lt_of_le hblt (by have:=hS0.1.lt;omega)),rangeS_keep2 hS0.2.2 hba (Nat.lt_of_lt_of_le hqb (by have:=hS0.1.lt;omega))⟩
         have hnews:∀(j:Nat) (x:Value),[Value.slice ua E.length uc][j]? =some x→(w21.alloc (.cells #[.slice ua E.length uc] 24)).cell? ((⟨w21.heap.size,0,none⟩:Addr).add j)=some x:=fun j u hu=>by rw[add_off,cell_of_row _ _ _ _ _ _ r5];simpa using hu
         refine hK _ _ hS0 ?_;simp only[Act.put,ZPa,ZPb,ZPc,ZPd,ZPe,ZPf];clear hK hba r5 hI hU hbi
         refine wpAnyH_one (k:=13) (fuel:=1) (by kernel_rfl) rfl (by kernel_rfl) (fun K_ hK=>?_)
         refine wp_append_I9 (.tmp 65) (.tmp 77) rfl w6.heap.size _ vs _ rfl w20.heap.size hI5 hH.1 hH.2 hs20 _ E hU5 w21.heap.size rfl hnews hlen5 hsz5 (fun v' w23 hI6 hg6=>?_)
         have hob:=fun q hq=>(own_high_row hI5.1 q hq).1
         have hB6:Below w6.heap.size w6 w23:=hbi5.grown hg6 hsz5 hob;have hlt5:=hS0.1.lt
         replace hS0:(fun W:World=>Bx W gx_ #[.int .u64 (xn:Int),.slice xda xdl xdc,.slice (some ⟨qb,qoff,none⟩) qs.length xpc]∧W.rangeAt b (off+k*5) [.int .i64 no,.int .i64 9,.int .u64 l,.int .u64 mo,.slice so sn sc]∧W.rangeAt qb (qoff+m*3) [.int .u64 (yn:Int),.slice yda ydl ydc,.slice ypa ypl ypc]) w23:=⟨hS0.1.same (hg6.block _ hlt5 (fun e=>by have:=hob _ e.symm;omega)),range_same hS0.2.1 (hg6.block _ (by omega) (fun e=>by have:=hob _ e.symm;omega)),range_same hS0.2.2 (hg6.block _ (by omega) (fun e=>by have:=hob _ e.symm;omega))⟩
         obtain⟨vo,vc,rfl⟩:=own_slice hI6.1;rw[List.length_append,List.length_singleton] at hI6;refine hK _ _ hS0 ?_;simp only[Act.put,ZPa,ZPb,ZPc,ZPd,ZPe,ZPf];clear hK hI5 hU5 hbi5 hnews hH hob hg6;refine wTy 14 ?v33 rfl ?y33 hS0 ?r33
         case y33=>
          intro w_ hS_;go_simp
          try with_reducible rfl
         try simp only[Act.put,ZPa,ZPb,ZPc,ZPd,ZPe,ZPf]
         refine wpAnyH_done (by kernel_rfl) ?_ _
         have B1:=hide hI6;have B2:=hide hB6;clear hI6 hB6 hS0
         go_wp2_with (fail)
         refine⟨⟨m+1,vs++[.slice ua E.length uc],by omega,by go_num,by rw[hmap.out];exact B1.out,B2.out⟩,?_⟩
         simp[intOf];omega
        ·have hd2:decide ((m:Int)<(qs.length:Int))=false:=by simp;omega
         obtain rfl:m=qs.length:=by omega
         rw[List.take_length] at hI
         have cJ:=r_join (qs.map enc) wr _ (hI.pcb (by rw[List.length_map];exact hqm) (fun i hi=>by
          rw[List.length_map] at hi
          have:gp (qs.map enc) i=enc (gvt qs i):=by
           rw[gp,List.getD_eq_getElem?_getD,List.getElem?_map,List.getElem?_eq_getElem hi,gvt,List.getD_eq_getElem?_getD,List.getElem?_eq_getElem hi];rfl
          rw[this];have:=hel.out (gvt qs i)
          omega))
         have hEl:(jout (qs.map enc)).length≤4194304:=jout_len _;replace hEl:=hide hEl
         generalize jout (qs.map enc)=E at *
         generalize jer (qs.map enc)=JE at *
         replace hb6:=Below.after hb6 hbi;replace rG:=keep hbi rG;have hsi:=hb6.size;have hgi:=lt_of_row rG;have R1:=hide hb6;have R2:=hide rG;clear hI hcl2 hel hqr hSxi hSsi hb hbi hb6 rG hSx hSs rV hF
         go_wp2_with (fail)
         refine cJ.mono ?_;rintro e_ w21 ⟨u,rfl,hU,hb4⟩;obtain⟨ua,uc,rfl,hBd,hub⟩:=own_told9 hU hEl;have hb6:=Below.after R1.out hb4;have rG:=keep hb4 R2.out;clear R1 R2 cJ hU c2;have r12:=setRow_heap w21 gf _ (#[.int .i64 no,.int .i64 wk,.int .u64 (xn:Int),.slice ua E.length uc]:Array Value) _ _ rG;have hb12:=below_setRow (g:=gf) hb6 hgf (#[.int .i64 no,.int .i64 wk,.int .u64 (xn:Int),.slice ua E.length uc]:Array Value);have hs12:=(below_setRow (g:=gf) (Below.refl gf w21) (Nat.le_refl gf) (#[.int .i64 no,.int .i64 wk,.int .u64 (xn:Int),.slice ua E.length uc]:Array Value)).size
         have hBd2:=bysB_move (V:=w21.setRow gf #[.int .i64 no,.int .i64 wk,.int .u64 (xn:Int),.slice ua E.length uc]) hBd hs12 (fun a ea=>setRow_other w21 gf a.block _ (by have:=hub a ea;omega))
         have Q1:=hide hb12;have Q2:=hide r12;have Q3:=hide hBd2;clear hb12 r12 hBd2 hb6 hBd hb4
         go_upto_region 18 with(first|(refine wpList_store_c9 rfl 24 _ _ rfl gf 3 (.slice ua E.length uc) rfl rfl 118 _ #[.int .i64 no,.int .i64 wk,.int .u64 (xn:Int),.slice ua E.length uc] rG (Nat.lt_of_lt_of_le (by decide:3<4) (Nat.le_refl _)) rfl infoBs9 rfl ?_)|fail)
         have hb12:=Q1.out;have r12:=Q2.out;have hBd2:=Q3.out;clear Q1 Q2 Q3 rG
         generalize w21.setRow gf #[.int .i64 no,.int .i64 wk,.int .u64 (xn:Int),.slice ua E.length uc]=w12 at *
         have hb:=Below.after H1.out hb12;have rV:=H2.out.keep hb12;have hF:=H3.out.keep hb12;have hBd:=hBd2;have rG:=r12
         have hblk:∀a,lv E.length ua=some a→a.block<w12.heap.size∧(Value.slice mo_ k mc).ownBlock≠some a.block:=fun a ea=>⟨by have:=(hub a ea).1;omega,fun e=>by have:=(A8.out _ e).2;have:=(hub a ea).2;omega⟩
         clear hBd2 r12 hb12;have hba:Below w12.heap.size w12 (w12.alloc (.cells #[.int .i64 no,.int .i64 wk,.int .u64 (xn:Int),.slice ua E.length uc] 118)):=(Below.refl _ _).alloc (Nat.le_refl _) _;have r7:=hp1_0 w12 (.cells #[.int .i64 no,.int .i64 wk,.int .u64 (xn:Int),.slice ua E.length uc] 118);have hF7:=hF.keep hba;have hOk:=hF7.1;rw[hfl.out] at hOk;have hBd7:=hBd.keep hba
         have hnews:∀j y,(#[.int .i64 no,.int .i64 wk,.int .u64 (xn:Int),.slice ua E.length uc]:Array Value).toList[j]? =some y→(w12.alloc (.cells #[.int .i64 no,.int .i64 wk,.int .u64 (xn:Int),.slice ua E.length uc] 118)).cell? ((⟨w12.heap.size,0,none⟩:Addr).add j)=some y:=fun j y hy=>by rw[add_off,cell_of_row _ _ _ _ _ _ r7];simpa using hy
         have B1:=hide (Below.after hb hba);have B2:=hide (rV.keep hba);have hbs:w.heap.size≤(w12.alloc (.cells #[.int .i64 no,.int .i64 wk,.int .u64 (xn:Int),.slice ua E.length uc] 118)).heap.size:=B1.out.size;have hbs6:=hba.size
         have hone3:∀u∈(#[.int .i64 no,.int .i64 wk,.int .u64 (xn:Int),.slice ua E.length uc]:Array Value).toList,Value.oneCell' u=true:=by simp[Value.oneCell']
         have B5:=hide hF7;have B6:=hide hBd7;clear hb rV hba r7 hF hF7 hBd hBd7
         go_wp2_with (first|(refine wpList_load_want rfl 118 _ rfl gf rfl 118 _ (0,0) _ rG Tryz.underlying118 rfl infoFi ?_)|(at_builtin;refine wpList_append_f9 rfl (.tmp 85) (.tmp 87) rfl w.heap.size _ k _ rfl hOk (by omega) (#[.int .i64 no,.int .i64 wk,.int .u64 (xn:Int),.slice ua E.length uc]:Array Value).toList rfl w12.heap.size rfl hnews hone3 hbs ?_)|fail)
         intro v' w17 h1 h2 h3
         have hF8:=B5.out.snoc B6.out hFok (fun a ea=>⟨by have:=(hblk a ea).1;omega,(hblk a ea).2⟩) (by rw[hfl.out];exact h1) h2 h3
         have hB7:Below w.heap.size w w17:=B1.out.grown h2 hbs (fun q hq=>(A8.out q hq).1)
         have rV7:Bx w17 w.heap.size _:=B2.out.same (h2.block _ B2.out.lt (fun e=>A9.out e.symm))
         have hne7:v'.ownBlock≠some w.heap.size:=fun e=>by
          rcases h3 with q|⟨q,q1,q2⟩
          ·exact A9.out (q.symm.trans e)
          ·rw[q1] at e
           injection e with e
           have:=B2.out.lt;omega
         obtain⟨vo,vc,rfl⟩:=own_slice h1;have C1:=hide hF8;have C2:=hide hB7;have C3:=hide hne7;have C4:=hide rV7;clear h1 h2 h3 hF8 hB7 hne7 rV7 hOk hnews B1 B2 B5 B6 rG
         go_wp2_with (fail)
         refine⟨⟨k+1,us2++[.slice ua E.length uc],by omega,by go_num,by rw[hst.out];exact C1.out,C2.out,C4.out,C3.out⟩,?_⟩
         simp[intOf];omega
      ·have b8:(kd==8)=false:=by simpa using h8
       have b9:(kd==9)=false:=by simpa using h9
       have hfp:=hpf.out h8 h9;have hBd:=hBd0.out.keep hb;have hFok:=hfo1.out;rw[hfp,←hnum.out] at hst
       have hblk:∀a,lv xdl xda=some a→a.block<w6.heap.size∧(Value.slice mo_ k mc).ownBlock≠some a.block:=fun a ea=>⟨by have:=(hbk.out a ea).1;have:=hb.size;omega,fun e=>by have:=(A8.out _ e).1;have:=(hbk.out a ea).1;omega⟩
       have hba:Below w6.heap.size w6 (w6.alloc (.cells #[.int .i64 no,.int .i64 wk,.int .u64 (xn:Int),.slice xda xdl xdc] 118)):=(Below.refl _ _).alloc (Nat.le_refl _) _;have r7:=hp1_0 w6 (.cells #[.int .i64 no,.int .i64 wk,.int .u64 (xn:Int),.slice xda xdl xdc] 118);have hF7:=hF.keep hba;have hOk:=hF7.1;rw[hfl.out] at hOk;have hBd7:=hBd.keep hba
       have hnews:∀j y,(#[.int .i64 no,.int .i64 wk,.int .u64 (xn:Int),.slice xda xdl xdc]:Array Value).toList[j]? =some y→(w6.alloc (.cells #[.int .i64 no,.int .i64 wk,.int .u64 (xn:Int),.slice xda xdl xdc] 118)).cell? ((⟨w6.heap.size,0,none⟩:Addr).add j)=some y:=fun j y hy=>by rw[add_off,cell_of_row _ _ _ _ _ _ r7];simpa using hy
       have B1:=hide (Below.after hb hba);have B2:=hide (rV.keep hba);have hbs:w.heap.size≤(w6.alloc (.cells #[.int .i64 no,.int .i64 wk,.int .u64 (xn:Int),.slice xda xdl xdc] 118)).heap.size:=B1.out.size;have hbs6:=hba.size
       have hone3:∀u∈(#[.int .i64 no,.int .i64 wk,.int .u64 (xn:Int),.slice xda xdl xdc]:Array Value).toList,Value.oneCell' u=true:=by simp[Value.oneCell']
       have B5:=hide hF7;have B6:=hide hBd7;clear hb rV hba r7 hF hF7 hBd hBd7
       go_wp2_with (first|(refine wpList_load_want rfl 118 _ rfl gf rfl 118 _ (0,0) _ rG Tryz.underlying118 rfl infoFi ?_)|(at_builtin;refine wpList_append_f9 rfl (.tmp 85) (.tmp 87) rfl w.heap.size _ k _ rfl hOk (by omega) (#[.int .i64 no,.int .i64 wk,.int .u64 (xn:Int),.slice xda xdl xdc]:Array Value).toList rfl w6.heap.size rfl hnews hone3 hbs ?_)|fail)
       intro v' w17 h1 h2 h3
       have hF8:=B5.out.snoc B6.out hFok (fun a ea=>⟨by have:=(hblk a ea).1;omega,(hblk a ea).2⟩) (by rw[hfl.out];exact h1) h2 h3
       have hB7:Below w.heap.size w w17:=B1.out.grown h2 hbs (fun q hq=>(A8.out q hq).1)
       have rV7:Bx w17 w.heap.size _:=B2.out.same (h2.block _ B2.out.lt (fun e=>A9.out e.symm))
       have hne7:v'.ownBlock≠some w.heap.size:=fun e=>by
        rcases h3 with q|⟨q,q1,q2⟩
        ·exact A9.out (q.symm.trans e)
        ·rw[q1] at e
         injection e with e
         have:=B2.out.lt;omega
       obtain⟨vo,vc,rfl⟩:=own_slice h1;have C1:=hide hF8;have C2:=hide hB7;have C3:=hide hne7;have C4:=hide rV7;clear h1 h2 h3 hF8 hB7 hne7 rV7 hOk hnews B1 B2 B5 B6 rG
       go_wp2_with (fail)
       refine⟨⟨k+1,us2++[.slice xda xdl xdc],by omega,by go_num,by rw[hst.out];exact C1.out,C2.out,C4.out,C3.out⟩,?_⟩
       simp[intOf];omega
   ·have hd:decide ((k:Int)<(ts.length:Int))=false:=by simp;omega
    obtain rfl:k=ts.length:=by omega
    rw[List.take_length,hpe.out] at hF hfl
    have cX:=cE.out _ _ (hF.fds (by have:=hfl.out;omega))
    have A1:=hide hb;clear h hpr hfl hO rV hb hF cE hvt hwa hla hgk hps hpl hpe hs hsub
    generalize hJJ:eout (fdT ts ps)=JJ at *
    replace hJJ:=hide hJJ
    generalize eer (fdT ts ps)=JE at *
    go_wp2_with (fail)
    refine cX.mono ?_;rintro e_ w1 ⟨u,rfl,hU,hb1⟩;have hU2:=own_down hU A1.out.size;have hb2:=Below.after A1.out hb1;obtain⟨ua,uc,rfl⟩:=slen_own hU2;clear cX hU hb1
    go_wp2_with (fail)
    go_ret
    exact⟨_,rfl,by rw[hJJ.out];exact hU2,hb2⟩
end Go.Proofs.YtmmlkfkpblokiaaGreatDoor
