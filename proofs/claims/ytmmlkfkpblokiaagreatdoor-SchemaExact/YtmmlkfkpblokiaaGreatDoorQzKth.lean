import Derived.Test.YtmmlkfkpblokiaaGreatDoorQzKtc
import Derived.Deep.Cut
set_option maxRecDepth 100000
set_option maxHeartbeats 16000000
namespace Go.Proofs.YtmmlkfkpblokiaaGreatDoor
open Go Go.RowKit Go.Sort
attribute [local go_sem] setCell_drewN alloc_drewN
theorem plain_field (t:Slt) (h8:t.kind≠8) (h9:t.kind≠9) (X:VT):fdS t X=⟨t.no,wtA t.kind,X.num,X.dat⟩:=by
 unfold fdS fdN
 rw[if_neg (by omega),if_neg h8,if_neg h9]
theorem msg_field (t:Slt) (h8:t.kind=8) (X:VT):fdS t X=⟨t.no,2,0,enT t.sub X⟩:=by
 have hw:wtA t.kind=2:=by rw[h8];rfl
 unfold fdS fdN
 rw[hw,if_pos (show t.kind=8∨t.kind=9 from .inl h8),if_pos h8]
theorem lst_field (t:Slt) (h9:t.kind=9) (X:VT):fdS t X=⟨t.no,2,0,jout (X.parts.map (enT t.sub))⟩:=by
 have hw:wtA t.kind=2:=by rw[h9];rfl
 unfold fdS fdN
 rw[hw,if_pos (show t.kind=8∨t.kind=9 from .inr h9),if_neg (by omega),if_pos h9]
theorem ent_inner2 (args:Array Value) (W:World):(callFunc 124 args).run Tryz.prog W=.ok (.enter 124 args) W:=by kernel_rfl
theorem ent_listed2 (args:Array Value) (W:World):(callFunc 129 args).run Tryz.prog W=.ok (.enter 129 args) W:=by kernel_rfl
theorem a_slotWriteT {W:World} {S0:Nat→Prop} {t:Slt} {u:Value} {row:Array Value} (h:SlC W S0 t u row) (hno:1≤t.no∧t.no≤536870911) (hu:nst t→∃so sn sc,u=.slice so sn sc)
 (hsub:nst t→∀(L:Nat) (x:VR) (X:VT) (w:World),VtM w (fun b=>b<L) x X→Below W.heap.size W w→X.parts.length=t.sub.length→wfT t.sub X.parts→L≤w.heap.size→Calls Tryz.prog 35 #[u,.agg (vrv x)] w fun e w'=>∃u,e=.returned u∧Own w' w.heap.size u (enT t.sub X)∧Below w.heap.size w w'):
 ∃wt k1 k2 k3 a1 a2 a3,row=rdv t.no wt k1 k2 k3 a1 a2 a3∧(∀args W,(callFunc k2 args).run Tryz.prog W=.ok (.enter k2 args) W)∧
 ∀(L:Nat) (x:VR) (X:VT) (w:World),VtM w (fun b=>b<L) x X→Below W.heap.size W w→(t.kind=8→X.parts.length=t.sub.length∧wfT t.sub X.parts)→(t.kind=9→∀p∈X.parts,p.parts.length=t.sub.length∧wfT t.sub p.parts)→L≤w.heap.size→Calls Tryz.prog k2 (#[.agg (vrv x)]++a2) w (WrR w L (fdS t X)):=by
 have gen:∀(wt:Int) (k:FuncId) (cs:Array Value),PlC W S0 t.no wt k cs row→wtA t.kind=wt→t.kind≠8→t.kind≠9→∃wt k1 k2 k3 a1 a2 a3,row=rdv t.no wt k1 k2 k3 a1 a2 a3∧(∀args W,(callFunc k2 args).run Tryz.prog W=.ok (.enter k2 args) W)∧
  ∀(L:Nat) (x:VR) (X:VT) (w:World),VtM w (fun b=>b<L) x X→Below W.heap.size W w→(t.kind=8→X.parts.length=t.sub.length∧wfT t.sub X.parts)→(t.kind=9→∀p∈X.parts,p.parts.length=t.sub.length∧wfT t.sub p.parts)→L≤w.heap.size→Calls Tryz.prog k2 (#[.agg (vrv x)]++a2) w (WrR w L (fdS t X)):=by
  intro wt k cs ⟨g0,g1,g2,g4,gs,e,h0,h1,h2,h4,h5⟩ hwt h8 h9
  refine⟨wt,_,_,_,_,_,_,e,ent_plain2,fun L x X w hx hb _ _ _=>?_⟩
  rw[plain_field t h8 h9,hwt];have hq:=hx
  cases hx with
  |mk x bs xs ps hn hdl hbl hd hdc hds hpl hxl hpc hpm hps hP hs=>
   refine(a_plain2 x.num x.da x.dl x.dc x.pa x.pl x.pc t.no wt g0 g1 w (h0.2.keep hb) (h1.2.keep hb)).mono fun e w' ⟨he,hb'⟩=>?_
   refine⟨x.da,x.dl,x.dc,he,hd.keep hb',⟨hn,hbl,by show _≤t.no;omega,by show t.no≤_;omega⟩,fun a ea=>⟨Nat.lt_of_lt_of_le (hds a ea).2 hb'.size,.inl (hds a ea).1⟩,hb'⟩
 rcases h with⟨hk,h⟩|⟨hk,h⟩|⟨hk,h⟩|⟨hk,h⟩|⟨hk,h⟩|⟨hk,h⟩|⟨hk,h⟩|⟨hk,h⟩
 ·exact gen 0 _ _ h (by rw[hk];rfl) (by omega) (by omega)
 ·exact gen 5 _ _ h (by rw[hk];rfl) (by omega) (by omega)
 ·exact gen 1 _ _ h (by rw[hk];rfl) (by omega) (by omega)
 ·exact gen 0 _ _ h (by rw[hk];rfl) (by omega) (by omega)
 ·exact gen 2 _ _ h (by rcases hk with hk|hk<;>rw[hk]<;>rfl) (by omega) (by omega)
 ·exact gen 1 _ _ h (by rw[hk];rfl) (by omega) (by omega)
 ·obtain⟨so,sn,sc,rfl⟩:=hu (.inl hk)
  obtain⟨g0,g1,e,h0,h1⟩:=h
  refine⟨2,_,_,_,_,_,_,e,ent_inner2,fun L x X w hx hb w8 _ hLw=>?_⟩
  rw[msg_field t hk]
  exact a_inner2 t.no (by omega) x g0 g1 so sn sc w L (enT t.sub X) (eout_len _) (h0.2.keep hb) (h1.2.keep hb) (fun V hV=>hsub (.inl hk) L x X V (hx.blw hV) (Below.after hb hV) (w8 hk).1 (w8 hk).2 (Nat.le_trans hLw hV.size))
 ·obtain⟨so,sn,sc,rfl⟩:=hu (.inr hk)
  obtain⟨g0,g1,g2,y,e,h0,h1,h2⟩:=h
  refine⟨2,_,_,_,_,_,_,e,ent_listed2,fun L x X w hx hb _ w9 hLw=>?_⟩
  rw[lst_field t hk];obtain⟨xs,hP⟩:=hx.split
  exact a_listed2 t.no (by omega) x g0 g2 so sn sc w L (jout (X.parts.map (enT t.sub))) (jout_len _) (h0.2.keep hb) (h2.2.keep hb) (fun V hV=>a_join8 L (enT t.sub) (fun Z=>eout_len _) so sn sc _ xs X.parts V (hP.blw hV) (fun V2 z Z hV2 hZ hm=>hsub (.inr hk) L z Z V2 hZ (Below.after (Below.after hb hV) hV2) (w9 hk Z hm).1 (w9 hk Z hm).2 (Nat.le_trans hLw (Nat.le_trans hV.size hV2.size))))
theorem a_encodeT {W:World} {S0:Nat→Prop} {v:Value} {ts:List Slt} (h:RdL W S0 v ts):gd ts→∀(L:Nat) (x:VR) (X:VT) (w:World),VtM w (fun b=>b<L) x X→Below W.heap.size W w→X.parts.length=ts.length→wfT ts X.parts→L≤w.heap.size→
 Calls Tryz.prog 35 #[v,.agg (vrv x)] w fun e w'=>∃u,e=.returned u∧Own w' w.heap.size u (enT ts X)∧Below w.heap.size w w':=by
 induction h with
 |mk ao cap ts rows us hl hc hnn h hs ih=>
  intro hgd L x X w hX hw hlx hwf hL;obtain⟨xs,hP⟩:=hX.split;obtain⟨n,da,dl,dc,pa,pl,pc⟩:=x;simp only at hP;unfold enT
  generalize X.parts=ps at *
  obtain⟨pa',pc',e,hxl,hpc,hpm,hpr,hvt⟩:=hP
  injection e with e1 e2 e3
  subst e1 e2 e3
  have hsl:=fun k (hlt:k<ts.length)=>fun hSl=>a_slotWriteT (W:=W) (S0:=S0) (t:=gs ts k) (u:=us k) (row:=rows k) hSl (gd_at ts k hlt hgd).1 (fun hn=>by obtain⟨a,c,q⟩:=(hs k hlt hn).form;exact⟨a,_,c,q⟩) (fun hn=>ih k hlt hn ((gd_at ts k hlt hgd).2.2 hn))
  have hwa:=fun k (hlt:k<ts.length)=>wfT_at ts ps k hlx.symm hlt hwf
  have hps:=hide (fun k (hlt:k<ts.length)=>fdT_take ts ps k hlx.symm hlt)
  have hpl:=hide (fun k (hk:k≤ts.length)=>(by rw[fdT_len _ _ (by rw[List.length_take,List.length_take,hlx]),List.length_take];omega:(fdT (ts.take k) (ps.take k)).length=k))
  have hpe:=hide (show ps.take ts.length=ps by rw[←hlx,List.take_length])
  rw[hlx] at hpc hpr hvt;unfold vrv;rw[hlx];clear hX hs ih hlx hgd hwf hpm;have hb0:Below w.heap.size w (w.alloc (.cells (vrw n (.slice da dl dc) (.slice pa ts.length pc)) 27)):=(Below.refl _ _).alloc (Nat.le_refl _) _;have rV:=hp1_0 w (.cells (vrw n (.slice da dl dc) (.slice pa ts.length pc)) 27)
  have cE:=hide (fun(V:World) (u:Value) (h:Fds V u (fdT ts ps))=>a_encode (fdT ts ps) V u h)
  unfold vrw at rV hb0⊢
  go_enter Tryz.func35,Tryz.ntmps35
  go_wp2_with (fail)
  generalize w.alloc (.cells #[.int .u64 (n:Int),.slice da dl dc,.slice pa ts.length pc] 27)=w0 at *
  go_loopw [12,6,7,5] (fun i _ _ out wr=>∃(k:Nat) (us2:List Value),k≤ts.length∧i=.int .i64 k∧FtW wr w.heap.size out us2 (fdT (ts.take k) (ps.take k))∧Below w.heap.size w wr∧wr.heap[w.heap.size]? =some (.cells #[.int .u64 (n:Int),.slice da dl dc,.slice pa ts.length pc] 27 (0,0))∧out.ownBlock≠some w.heap.size) (fun i _ _ _ _=>ts.length-(intOf i).toNat)
  case atStart=>exact⟨0,[],by omega,rfl,by rw[List.take_zero,List.take_zero,fdT_nil];exact ftw_nil _ _,hb0,rV,by simp[Value.ownBlock]⟩
  case round=>
   clear rV hb0;obtain⟨k,us2,hk,rfl,hF,hb,rV,hne⟩:=hrel;have hfl:=hpl.out k hk;have hO:=hF.1;rw[hfl] at hO;replace hfl:=hide hfl;have hww:=Below.after hw hb;obtain⟨mo,mc,rfl⟩:=own_slice hO
   by_cases hlt:k<ts.length
   ·have hd:decide ((k:Int)<(ts.length:Int))=true:=by simp;omega
    obtain⟨b,rfl,hbl,_,hra,hSl⟩:=h k hlt
    obtain⟨pb,poff,rfl,hpb,hpra⟩:=hpr k (by omega)
    obtain⟨wt,k1,k2,k3,a1,a2,a3,hrow,hent,hcall⟩:=hsl k hlt hSl;have hst:=hps.out k hlt;replace hst:=hide hst;rw[hrow] at hra;have hrw:=rangeS_keep2 hra hww hbl;have hpw:=rangeS_keep2 hpra hb hpb
    have cC:=fun V hV hz hLV=>hcall L (gx xs k) (gvt ps k) V hz hV (hwa k hlt).1 (hwa k hlt).2 hLV
    have hvz:=hvt k hlt
    generalize hFF:fdS (gs ts k) (gvt ps k)=FF at *
    generalize hfs:fdT (ts.take k) (ps.take k)=fs at *
    clear hFF hfs;have hlb:=lt_of_row rV;have hba:Below wr.heap.size wr (wr.alloc (.cells #[.int .i64 0,.int .i64 0,.nilFunc,.nilFunc,.nilFunc] 114)):=(Below.refl _ _).alloc (Nat.le_refl _) _;have rS:=hp1_0 wr (.cells #[.int .i64 0,.int .i64 0,.nilFunc,.nilFunc,.nilFunc] 114);have hbb:=below_setRow (g:=wr.heap.size) hba (Nat.le_refl _) (rdv (gs ts k).no wt k1 k2 k3 a1 a2 a3);have rS2:=setRow_heap _ wr.heap.size _ (rdv (gs ts k).no wt k1 k2 k3 a1 a2 a3) _ _ rS;have hO2:=hF.keep hbb;have hbsz:=hbb.size;replace rV:=keep hbb rV;replace hpw:=rangeS_keep2 hpw hbb (Nat.lt_of_lt_of_le hpb hb.size);have hpb2:=Nat.lt_of_lt_of_le hpb hb.size;replace hb:=Below.after hb hbb;replace hww:=Below.after hww hbb
    generalize (gs ts k).no=no at *
    generalize gvt ps k=Zk at *
    generalize gx xs k=x at *
    replace hvz:=hide hvz;obtain⟨fno,fty,fnum,fdat⟩:=FF;obtain⟨xn,xda,xdl,xdc,xpa,xpl,xpc⟩:=x;have A1:=hide rV;have A2:=hide hpw;have A3:=hide hb;have A4:=hide hww;have A5:=hide rS2;have A6:=hide cC;have A7:=hide hO2;have A8:=hide (own_lt hO);have A9:=hide hne
    have hone:(rdv no wt k1 k2 k3 a1 a2 a3).all (·.oneCell')=true:=by simp[rdv,Value.oneCell']
    clear rV hpw hb hww rS2 cC hcall hSl hrow hra hpra h hpr hba hbb hO hO2 hF hvt hsl hwa hps hpl hpe
    unfold rdv vrv vrw at *
    go_wp2_with (first|(refine wpList_load_mid rfl 114 _ rfl b (k*5) rfl _ _ hrw Tryz.underlying114 rfl infoSt' ?_)|(refine wpList_store_row rfl 114 _ _ rfl wr.heap.size #[.int .i64 no,.int .i64 wt,.func (.func k1) #[] a1,.func (.func k2) #[] a2,.func (.func k3) #[] a3] rfl rfl 114 _ rS infoSt' rfl hone ?_)|fail)
    have hS0:(fun W:World=>W.heap[wr.heap.size]? =some (.cells #[.int .i64 no,.int .i64 wt,.func (.func k1) #[] a1,.func (.func k2) #[] a2,.func (.func k3) #[] a3] 114 (0,0))∧W.heap[w.heap.size]? =some (.cells #[.int .u64 (n:Int),.slice da dl dc,.slice (some ⟨pb,poff,none⟩) ts.length pc] 27 (0,0))∧W.rangeAt pb (poff+k*3) [.int .u64 (xn:Int),.slice xda xdl xdc,.slice xpa xpl xpc]) _:=⟨A5.out,A1.out,A2.out⟩
    refine wp_region_held (S:=fun W:World=>W.heap[wr.heap.size]? =some (.cells #[.int .i64 no,.int .i64 wt,.func (.func k1) #[] a1,.func (.func k2) #[] a2,.func (.func k3) #[] a3] 114 (0,0))∧W.heap[w.heap.size]? =some (.cells #[.int .u64 (n:Int),.slice da dl dc,.slice (some ⟨pb,poff,none⟩) ts.length pc] 27 (0,0))∧W.rangeAt pb (poff+k*3) [.int .u64 (xn:Int),.slice xda xdl xdc,.slice xpa xpl xpc]) (by kernel_rfl) ?_
    change wpAnyH _ _ _ _ _ _ _ _ (World.drew _)
    generalize (wr.alloc (.cells #[.int .i64 0,.int .i64 0,.nilFunc,.nilFunc,.nilFunc] 114)).setRow wr.heap.size #[.int .i64 no,.int .i64 wt,.func (.func k1) #[] a1,.func (.func k2) #[] a2,.func (.func k3) #[] a3]=w2 at *
    have hbd:Below w2.heap.size w2 w2.drew:=below_drN (Below.refl _ _) 1
    replace hS0:(fun W:World=>W.heap[wr.heap.size]? =some (.cells #[.int .i64 no,.int .i64 wt,.func (.func k1) #[] a1,.func (.func k2) #[] a2,.func (.func k3) #[] a3] 114 (0,0))∧W.heap[w.heap.size]? =some (.cells #[.int .u64 (n:Int),.slice da dl dc,.slice (some ⟨pb,poff,none⟩) ts.length pc] 27 (0,0))∧W.rangeAt pb (poff+k*3) [.int .u64 (xn:Int),.slice xda xdl xdc,.slice xpa xpl xpc]) w2.drew:=hS0
    have hb:=Below.after A3.out hbd;have hww:=Below.after A4.out hbd;have hO:=A7.out.keep hbd;have hszd:=hbd.size;clear A1 A2 A3 A4 A5 A7 hbd
    generalize w2.drew=w3 at *
    refine wTy 0 ?v1 rfl ?y1 hS0 ?r1
    case y1=>
     intro w_ hS_;go_simp
     try with_reducible rfl
    simp only[Act.put,ZPa,ZPc,ZPd,ZPe,ZPf];refine wTy 1 ?v2 rfl ?y2 hS0 ?r2
    case y2=>
     intro w_ hS_;go_simp
     try with_reducible rfl
    simp only[Act.put,ZPa,ZPb,ZPc,ZPd,ZPe,ZPf];refine wTy 2 (.func (.func k2) #[] a2) rfl ?y3 hS0 ?r3
    case y3=>
     intro w_ hS_;have c_:=cell_of_row _ _ 3 _ _ _ hS_.1;go_simp
     try with_reducible rfl
    simp only[Act.put,ZPa,ZPb,ZPc,ZPd,ZPe,ZPf];refine wTy 3 ?v4 rfl ?y4 hS0 ?r4
    case y4=>
     intro w_ hS_;go_simp
     try with_reducible rfl
    simp only[Act.put,ZPa,ZPb,ZPc,ZPd,ZPe,ZPf];refine wTy 4 (.slice (some ⟨pb,poff,none⟩) ts.length pc) rfl ?y5 hS0 ?r5
    case y5=>
     intro w_ hS_;have c_:=cell_of_row _ _ 2 _ _ _ hS_.2.1;go_simp
     try with_reducible rfl
    simp only[Act.put,ZPa,ZPb,ZPc,ZPd,ZPe,ZPf];refine wTy 5 ?v6 rfl ?y6 hS0 ?r6
    case y6=>
     intro w_ hS_;go_simp
     try with_reducible rfl
    simp only[Act.put,ZPa,ZPb,ZPc,ZPd,ZPe,ZPf];refine wTy 6 ?v7 rfl ?y7 hS0 ?r7
    case y7=>
     intro w_ hS_;go_simp
     try with_reducible rfl
    simp only[Act.put,ZPa,ZPb,ZPc,ZPd,ZPe,ZPf]
    refine wTk (i:=7) (v:=.agg #[.int .u64 (xn:Int),.slice xda xdl xdc,.slice xpa xpl xpc]) rfl (yieldsIf_load_mid (by rfl) 27 _ rfl pb (poff+k*3) rfl [.int .u64 (xn:Int),.slice xda xdl xdc,.slice xpa xpl xpc] _ (fun _ h=>h.2.2) Tryz.underlying27 rfl infoV) hS0 ?_
    simp only[Act.put,ZPa,ZPb,ZPc,ZPd,ZPe,ZPf]
    refine wpAnyH_one (k:=8) (fuel:=3) (by kernel_rfl) rfl (by kernel_rfl) (fun K_ hK=>?_)
    have hszw:=hb.size;have c:=A6.out w3 hww (hvz.out.blw hb) (Nat.le_trans hL hb.size);clear A6 hvz
    refine wp_call_ex (R:=fun v w'=>∃ua ul uc,v=.agg #[.int .i64 fno,.int .i64 fty,.int .u64 (fnum:Int),.slice ua ul uc]∧BysB w' (.slice ua ul uc) fdat∧Fok ⟨fno,fty,fnum,fdat⟩∧(∀a,lv ul ua=some a→a.block<w'.heap.size∧(a.block<L∨w3.heap.size≤a.block))∧Below w3.heap.size w3 w') ?hx (c.mono fun e w' h=>by obtain⟨a1,a2,a3,h1,h2⟩:=h;exact⟨_,h1,a1,a2,a3,rfl,h2⟩) (fun v_ w4 hX_=>?_)
    case hx=>exact run_call_val (.tmp 19) #[.tmp 24] #[27] rfl rfl _ (by simp only[List.map_toArray,List.map_cons,List.map_nil];rfl) hent
    obtain⟨ua,ul,uc,rfl,hBd,hFok,hblk,hb4⟩:=hX_;have hl1:=lt_of_row hS0.1;have hl2:=lt_of_row hS0.2.1
    have hp4:=rangeS_keep2 hS0.2.2 hb4 (Nat.lt_of_lt_of_le hpb2 (by omega))
    refine hK _ _ ⟨keep hb4 hS0.1,keep hb4 hS0.2.1,hp4⟩ ?_;simp only[Act.put,ZPa,ZPb,ZPc,ZPd,ZPe,ZPf];clear hK c;replace hb:=Below.after hb hb4;replace hO:=hO.keep hb4;have hS4:_∧_∧_:=⟨keep hb4 hS0.1,keep hb4 hS0.2.1,hp4⟩;have hsz4:=hb4.size;clear hS0 hp4 hww hb4;have hba:Below w4.heap.size w4 (w4.alloc (.cells #[.int .i64 fno,.int .i64 fty,.int .u64 (fnum:Int),.slice ua ul uc] 118)):=(Below.refl _ _).alloc (Nat.le_refl _) _;have r5:=hp1_0 w4 (.cells #[.int .i64 fno,.int .i64 fty,.int .u64 (fnum:Int),.slice ua ul uc] 118);have hz5:=size_alloc1 w4 (.cells #[.int .i64 fno,.int .i64 fty,.int .u64 (fnum:Int),.slice ua ul uc] 118)
    refine wpAnyH_one (k:=9) (fuel:=2) (by kernel_rfl) rfl (by kernel_rfl) (fun K_ hK=>?_)
    refine wp_val_op (.slice (some ⟨w4.heap.size,0,none⟩) 1 1) (w':=w4.alloc (.cells #[.int .i64 fno,.int .i64 fty,.int .u64 (fnum:Int),.slice ua ul uc] 118)) (by kernel_rfl) ?_
    have hS5:_∧_∧_:=⟨keep hba hS4.1,keep hba hS4.2.1,rangeS_keep2 hS4.2.2 hba (Nat.lt_of_lt_of_le hpb2 (by omega))⟩
    refine hK _ _ hS5 ?_;simp only[Act.put,ZPa,ZPb,ZPc,ZPd,ZPe,ZPf];clear hK;replace hO:=hO.keep hba;replace hBd:=hBd.keep hba;replace hb:=Below.after hb hba;clear hS4 hba
    generalize w4.alloc (.cells #[.int .i64 fno,.int .i64 fty,.int .u64 (fnum:Int),.slice ua ul uc] 118)=w5 at *
    obtain⟨i0,hi,hz0,hz1,hz2⟩:=info48
    refine wpAnyH_one (k:=10) (fuel:=1) (by kernel_rfl) rfl (by kernel_rfl) (fun K_ hK=>?_)
    have hOk:=hO.1;rw[hfl.out] at hOk
    refine wp_append_nx (.tmp 17) (.tmp 26) 116 rfl w.heap.size 118 i0 (.agg #[.int .i64 0,.int .i64 0,.int .u64 0,nS]) 4 48 Tryz.underlying116 hi hz0 hz1 hz2 rfl (by decide) (.slice mo k mc) k (frs fs us2) rfl hOk ⟨w4.heap.size,0,none⟩ 1 1 #[.int .i64 fno,.int .i64 fty,.int .u64 (fnum:Int),.slice ua ul uc].toList rfl rfl (fun j u hu=>by rw[add_off,cell_of_row _ _ _ _ _ _ r5];simpa using hu) (by simp[Value.oneCell']) (by unfold maxLen;omega) (by omega) hb.size (fun v' w6 h1 h2 h3=>?_)
    have hk5:∀q,q<w5.heap.size→(Value.slice mo k mc).ownBlock≠some q→w6.heap[q]? =w5.heap[q]? :=fun q hq1 hq2=>h2.block q hq1 (fun e=>hq2 e.symm)
    have hl1:=lt_of_row hS5.1;have hl2:=lt_of_row hS5.2.1
    have e1:=hk5 _ hl1 (fun e=>by have:=(A8.out _ e).2;omega)
    have e2:=hk5 _ hl2 A9.out
    have e3:=hk5 pb (by omega) (fun e=>by have:=(A8.out _ e).1;omega)
    have hS6:_∧_∧_:=⟨e1.trans hS5.1,e2.trans hS5.2.1,range_same hS5.2.2 e3⟩;refine hK _ _ hS6 ?_;simp only[Act.put,ZPa,ZPb,ZPc,ZPd,ZPe,ZPf];clear hK
    have hB6:Below w.heap.size w w6:=hb.grown h2 hb.size (fun q hq=>(A8.out q hq).1)
    have hne6:v'.ownBlock≠some w.heap.size:=fun e=>by
     rcases h3 with q|⟨q,q1,q2⟩
     ·exact A9.out (q.symm.trans e)
     ·rw[q1] at e
      injection e with e
      omega
    have rV6:=hS6.2.1
    have hF6:=hO.snoc hBd hFok (fun a ea=>⟨by have:=(hblk a ea).1;omega,fun eq=>by have:=A8.out _ eq;have:=(hblk a ea).2;omega⟩) (by rw[hfl.out];exact h1) h2 h3
    obtain⟨vo,vc,rfl⟩:=own_slice h1;have B1:=hide hF6;have B2:=hide hB6;have B3:=hide hne6;have B4:=hide rV6;clear h1 h2 h3 hF6 hB6 hne6 rV6 hS5 hk5 e1 e2 e3 hO hOk hBd hFok hblk hb r5 hi hz0 hz1 hz2
    refine wpAnyH_one (k:=11) (fuel:=0) (by kernel_rfl) rfl (by kernel_rfl) (fun K_ hK=>?_)
    refine wp_pure_op (.slice vo (k+1) vc) (by kernel_rfl) ?_
    refine hK _ _ hS6 ?_;simp only[Act.put,ZPa,ZPb,ZPc,ZPd,ZPe,ZPf];clear hK hS6
    refine wpAnyH_done (by kernel_rfl) ?_ _
    go_wp2_with (fail)
    refine⟨⟨k+1,us2++[.slice ua ul uc],by omega,by go_num,by rw[hst.out];exact B1.out,B2.out,B4.out,B3.out⟩,?_⟩
    simp[intOf];omega
   ·have hd:decide ((k:Int)<(ts.length:Int))=false:=by simp;omega
    obtain rfl:k=ts.length:=by omega
    rw[List.take_length,hpe.out] at hF hfl
    have cX:=cE.out _ _ (hF.fds (by have:=hfl.out;omega))
    have A1:=hide hb;clear h hpr hfl hO rV hb hF cE hvt hsl hwa hps hpl hpe
    generalize hJJ:eout (fdT ts ps)=JJ at *
    generalize eer (fdT ts ps)=JE at *
    replace hJJ:=hide hJJ
    go_wp2_with (fail)
    refine cX.mono ?_;rintro e_ w1 ⟨u,rfl,hU,hb1⟩;have hU2:=own_down hU A1.out.size;have hb2:=Below.after A1.out hb1;obtain⟨ua,uc,rfl⟩:=slen_own hU2;clear cX hU hb1
    go_wp2_with (fail)
    go_ret
    exact⟨_,rfl,by rw[hJJ.out];exact hU2,hb2⟩
theorem a_plain3 (k:FuncId) (hk:k=90∨k=92∨k=94) (n:Nat) (no ty:Int) (da:Option Addr) (dl dc:Nat) (at_ E:Int) (g2 gs:Nat) (w:World) (h2:Bx w g2 #[.func (.func k) #[] #[ptr gs]])
 (hF:∀V,Below w.heap.size w V→Calls Tryz.prog k #[.agg (vrw n (.slice da dl dc) nS),ptr gs] V fun e w'=>e=.returned (.int .i64 E)∧Below V.heap.size V w'):
 Calls Tryz.prog 116 #[.agg #[.int .i64 no,.int .i64 ty,.int .u64 (n:Int),.slice da dl dc],.int .i64 at_,ptr g2] w fun e w'=>Gup w.heap.size (rdE at_ E) e w' (fun v=>v=.agg (vrw n (.slice da dl dc) nS))∧Below w.heap.size w w':=by
 obtain⟨T2,h2⟩:=h2;have l2:=lt_of_row h2;have r1:=hp3_1 w (.cells #[.int .i64 no,.int .i64 ty,.int .u64 (n:Int),.slice da dl dc] 118) (.cells #[.int .u64 0,nS,nS] 27) (.cells #[.int .u64 0,nS,nS] 27);have r2:=hp3_2 w (.cells #[.int .i64 no,.int .i64 ty,.int .u64 (n:Int),.slice da dl dc] 118) (.cells #[.int .u64 0,nS,nS] 27) (.cells #[.int .u64 0,nS,nS] 27)
 have hb0:Below w.heap.size w (((w.alloc (.cells #[.int .i64 no,.int .i64 ty,.int .u64 (n:Int),.slice da dl dc] 118)).alloc (.cells #[.int .u64 0,nS,nS] 27)).alloc (.cells #[.int .u64 0,nS,nS] 27)):=(((Below.refl _ _).alloc (Nat.le_refl _) _).alloc (by simp) _).alloc (by simp;omega) _
 have hb:=below_setRow (g:=w.heap.size+1+1) hb0 (by omega) #[.int .u64 (n:Int),.slice da dl dc,nS]
 have RV:=setRow_heap _ (w.heap.size+1+1) _ #[.int .u64 (n:Int),.slice da dl dc,nS] _ _ r2
 have R1:=(setRow_other (((w.alloc (.cells #[.int .i64 no,.int .i64 ty,.int .u64 (n:Int),.slice da dl dc] 118)).alloc (.cells #[.int .u64 0,nS,nS] 27)).alloc (.cells #[.int .u64 0,nS,nS] 27)) (w.heap.size+1+1) (w.heap.size+1) #[.int .u64 (n:Int),.slice da dl dc,nS] (by omega)).trans r1
 have a1:¬w.heap.size=g2:=by omega
 have a2:¬g2=w.heap.size:=by omega
 have a3:¬w.heap.size+1=g2:=by omega
 have a4:¬g2=w.heap.size+1:=by omega
 have a5:¬w.heap.size+1+1=g2:=by omega
 have a6:¬g2=w.heap.size+1+1:=by omega
 have hone:(#[.int .u64 (n:Int),.slice da dl dc,nS]:Array Value).all (·.oneCell')=true:=by simp[Value.oneCell']
 have c2:((((w.alloc (.cells #[.int .i64 no,.int .i64 ty,.int .u64 (n:Int),.slice da dl dc] 118)).alloc (.cells #[.int .u64 0,nS,nS] 27)).alloc (.cells #[.int .u64 0,nS,nS] 27)).setRow (w.heap.size+1+1) #[.int .u64 (n:Int),.slice da dl dc,nS]).cell? ⟨g2,0,none⟩=some (.func (.func k) #[] #[ptr gs]):=(hb.cell (p:=⟨g2,0,none⟩) l2).trans (by rw[cell_of_row _ _ _ _ _ _ h2];rfl)
 have cF:=hF _ hb;have cE:=a_giveUp 0 at_ E;obtain⟨R,hR⟩:∃R,rdE at_ E=R:=⟨_,rfl⟩;rw[hR]
 unfold vrw at cF⊢
 unfold ptr at *
 replace hb:=hide hb;replace RV:=hide RV;replace R1:=hide R1;replace cF:=hide cF;replace c2:=hide c2;clear hF h2 hb0 r1
 go_enter Tryz.func116,Tryz.ntmps116
 go_wp2_with (first|(refine wpList_store_row rfl 27 _ _ rfl (w.heap.size+1+1) #[.int .u64 (n:Int),.slice da dl dc,nS] rfl rfl 27 _ r2 infoV rfl hone ?_;refine wpList_stay ?_)|fail)
 unfold WpStay;clear r2
 generalize (((w.alloc (.cells #[.int .i64 no,.int .i64 ty,.int .u64 (n:Int),.slice da dl dc] 118)).alloc (.cells #[.int .u64 0,nS,nS] 27)).alloc (.cells #[.int .u64 0,nS,nS] 27)).setRow (w.heap.size+1+1) #[.int .u64 (n:Int),.slice da dl dc,nS]=W4 at *
 have RW:=RV.out;have c2':=c2.out;clear RV c2
 rcases hk with rfl|rfl|rfl
 all_goals
  go_wp2_with (first|(refine wpList_load_want rfl 27 _ rfl (w.heap.size+1+1) rfl 27 #[.int .u64 (n:Int),.slice da dl dc,nS] (0,0) _ RW Tryz.underlying27 rfl infoV ?_)|fail)
  refine cF.out.mono ?_;rintro e_ w1 ⟨rfl,hb1⟩;have R11:=keep hb1 R1.out;have RW1:=keep hb1 RW;have hw:=Below.after hb.out hb1;clear cF hb hb1 R1 RW c2'
  rcases hE:(E==0)
  ·have hE2:¬E=0:=by simpa using hE
   have eR:R=some ⟨0,at_,E⟩:=by rw[←hR,rdE,if_neg hE2]
   replace eR:=hide eR;clear hR
   go_wp2_with (fail)
   refine(cE _).mono ?_;rintro e_ w2 ⟨hg,hb2⟩;obtain⟨g,rfl,hgl,hgr⟩:=hg;have szw:=hw.size;replace hw:=Below.after hw hb2
   go_wp2
   rw[eR.out];exact⟨rfl,⟨g,rfl,Nat.le_trans szw hgl,hgr⟩,hw⟩
  ·obtain rfl:E=0:=by simpa using hE
   have eR:R=none:=by rw[←hR,rdE,if_pos rfl]
   replace eR:=hide eR;clear hR cE;have RF:=setRow_heap _ (w.heap.size+1) _ #[.int .u64 (n:Int),.slice da dl dc,nS] _ _ R11
   have hwF:=below_setRow (g:=w.heap.size+1) hw (by omega) #[.int .u64 (n:Int),.slice da dl dc,nS]
   replace RF:=hide RF;replace hwF:=hide hwF
   go_wp2_with (first|(refine wpList_load_want rfl 27 _ rfl (w.heap.size+1+1) rfl 27 #[.int .u64 (n:Int),.slice da dl dc,nS] (0,0) _ RW1 Tryz.underlying27 rfl infoV ?_)|(refine wpList_store_row rfl 27 _ _ rfl (w.heap.size+1) #[.int .u64 (n:Int),.slice da dl dc,nS] rfl rfl 27 _ R11 infoV rfl hone ?_)|fail)
   refine bodyPost_ret (v:=.agg #[.int .u64 (n:Int),.slice da dl dc,nS]) (results_cell_row Tryz.results116 _ _ (w.heap.size+1) _ _ _ _ rfl RF.out Tryz.underlying27 rfl infoV) rfl ⟨?_,hwF.out⟩;rw[eR.out];exact⟨_,rfl,rfl⟩
theorem ent_plain3 (args:Array Value) (W:World):(callFunc 116 args).run Tryz.prog W=.ok (.enter 116 args) W:=by kernel_rfl
section
variable {P : Program} {ops : Array Oper} {Q : Exit → Act → World → Prop} {md : Region.Mode} {S : World → Prop}
end
theorem a_sizeX (n:Nat) (hn:n<18446744073709551616) (w:World):Calls Tryz.prog 84 #[.int .u64 (n:Int)] w fun e w'=>∃u,e=.returned u∧u=.int .i64 ((en n).length:Int)∧Below w.heap.size w w':=(a_size n hn w).mono fun _ _ h=>⟨_,h.1,rfl,h.2⟩
theorem a_endOf (f:Fd) (ao:Option Addr) (cap:Nat) (at_:Int) (hat:0≤at_∧at_≤4611686018427387904) (hf:Fok f) (h0:0≤f.no) (h1:f.no≤536870911) (hk:known f.ty) (w:World):Calls Tryz.prog 59 #[.agg #[.int .i64 f.no,.int .i64 f.ty,.int .u64 (f.num:Int),.slice ao f.dat.length cap],.int .i64 at_] w fun e w'=>∃u,e=.returned u∧u=.int .i64 (at_+((fby f).length:Int))∧Below w.heap.size w w':=by
 have ht:=known_lt hk;obtain⟨N,hN⟩:=Int.eq_ofNat_of_zero_le h0;obtain⟨hf1,hf2,_,_⟩:=hf
 have hH:(en (fhd f)).length=(en (8*N)).length:=by
  have e:fhd f=8*N+f.ty.toNat:=by unfold fhd;rw[hN];rfl
  rw[e]
  exact en_head N _ (by omega)
 have cH:=s_headOf N (by omega)
 have cS:=a_size (8*N) (by omega)
 have cN:=a_size f.num hf1
 have cD:=a_sizeX f.dat.length (by omega)
 have hten:=en_ten (n:=8*N) (by omega)
 have hten2:=en_ten hf1
 have hten3:=en_ten (n:=f.dat.length) (by omega)
 have hl:(fby f).length=(en (8*N)).length+(fvl f).length:=by rw[fby,List.length_append,hH]
 have hvl:fvl f=if f.ty=0 then en f.num else if f.ty=1 then fx 8 f.num else if f.ty=5 then fx 4 f.num else itm f.dat:=rfl
 have hL0:f.ty=0→(fby f).length=(en (8*N)).length+(en f.num).length:=fun t=>by rw[hl,hvl,if_pos t]
 have hL1:f.ty=1→(fby f).length=(en (8*N)).length+8:=fun t=>by rw[hl,hvl,if_neg (by omega),if_pos t,fx_len]
 have hL5:f.ty=5→(fby f).length=(en (8*N)).length+4:=fun t=>by rw[hl,hvl,if_neg (by omega),if_neg (by omega),if_pos t,fx_len]
 have hL2:f.ty=2→(fby f).length=(en (8*N)).length+(en f.dat.length).length+f.dat.length:=fun t=>by rw[hl,hvl,if_neg (by omega),if_neg (by omega),if_neg (by omega),itm_len];omega
 unfold known at hk
 generalize (fby f).length=L at *
 clear hvl hl hH
 generalize hfn:f.no=fno at *
 generalize f.ty=fty at *
 generalize f.num=num at *
 generalize f.dat.length=dl at *
 generalize (en (8*N)).length=H at *
 generalize (en dl).length=DL at *
 generalize (en num).length=NL at *
 replace hN:=hide hN;clear hfn f;have R0:=hp1_0 w (.cells #[.int .i64 fno,.int .i64 fty,.int .u64 (num:Int),.slice ao dl cap] 118);have hw:Below w.heap.size w (w.alloc (.cells #[.int .i64 fno,.int .i64 fty,.int .u64 (num:Int),.slice ao dl cap] 118)):=(Below.refl _ _).alloc (Nat.le_refl _) _
 go_enter Tryz.func59,Tryz.ntmps59
 go_upto_region 1 with(fail)
 generalize w.alloc (.cells #[.int .i64 fno,.int .i64 fty,.int .u64 (num:Int),.slice ao dl cap] 118)=w1 at *
 have c0:=cell_of_row _ _ 0 _ _ _ R0;have cH1:=cH w1;rw[←hN.out] at cH1;replace cH1:=hide cH1;clear cH
 go_wp2_with (fail)
 refine cH1.out.mono ?_;rintro e_ w2 ⟨rfl,hb_⟩;replace R0:=keep hb_ R0;replace hw:=Below.after hw hb_;clear hb_ c0 cH1;have cS2:=hide (cS w2);clear cS
 go_wp2_with (fail)
 refine cS2.out.mono ?_;rintro e_ w3 ⟨rfl,hb_⟩;replace R0:=keep hb_ R0;replace hw:=Below.after hw hb_;clear hb_ cS2
 rcases hk with t|t|t|t
 ·have e:=hide (hL0 t)
  subst t
  have cN3:=hide (cN w3);have c1:=cell_of_row _ _ 1 _ _ _ R0;have c2:=cell_of_row _ _ 2 _ _ _ R0;clear hL0 hL1 hL2 hL5 cN cD
  go_wp2_with (fail)
  refine cN3.out.mono ?_;rintro e_ w4 ⟨rfl,hb_⟩;replace hw:=Below.after hw hb_;clear hb_ cN3
  go_wp2_with (fail)
  go_ret
  exact⟨_,rfl,by rw[e.out];go_num,hw⟩
 ·have e:=hide (hL1 t)
  subst t
  have c1:=cell_of_row _ _ 1 _ _ _ R0;clear hL0 hL1 hL2 hL5 cN cD
  go_wp2_with (fail)
  go_ret
  exact⟨_,rfl,by rw[e.out];go_num,hw⟩
 ·have e:=hide (hL2 t)
  subst t
  have c1:=cell_of_row _ _ 1 _ _ _ R0;clear hL0 hL1 hL2 hL5 cN
  go_upto_region 8 with(fail)
  clear c1;have hbd:Below w3.heap.size w3 w3.drew:=below_drN (Below.refl _ _) 1;replace R0:=keep hbd R0;replace hw:=Below.after hw hbd;clear hbd
  have q0:IntKind.wrap .u64 (dl:Int)=(dl:Int):=by show(dl:Int)%18446744073709551616=dl;omega
  have q1:IntKind.wrap .i64 (at_+(H:Int)+(DL:Int))=at_+(H:Int)+(DL:Int):=by rw[IntKind.wrap_i64];omega
  have q2:IntKind.wrap .i64 (at_+(H:Int)+(DL:Int)+(dl:Int))=at_+(H:Int)+(DL:Int)+(dl:Int):=by rw[IntKind.wrap_i64];omega
  refine wp_region_noPanic ?_
  refine wp_region_held (S:=fun W=>W.heap[w.heap.size]? =some (.cells #[.int .i64 fno,.int .i64 2,.int .u64 (num:Int),.slice ao dl cap] 118 (0,0))) (by kernel_rfl) ?_
  change wpAnyH _ _ _ _ _ _ _ _ (World.drew _)
  generalize w3.drew=y1 at *
  refine wTy 0 ?v1 rfl ?y1 R0 ?r1
  case y1=>
   intro w_ hS_;go_simp
   try with_reducible rfl
  simp only[Act.put,ZPa,ZPc,ZPd,ZPe,ZPf];refine wTy 1 ?v2 rfl ?y2 R0 ?r2
  case y2=>
   intro w_ hS_;go_simp
   try with_reducible rfl
  simp only[Act.put,ZPa,ZPb,ZPc,ZPd,ZPe,ZPf];refine wTy 2 (.slice ao dl cap) rfl ?y3 R0 ?r3
  case y3=>
   intro w_ hS_;have c_:=cell_of_row _ _ 3 _ _ _ hS_;go_simp
   try with_reducible rfl
  simp only[Act.put,ZPa,ZPb,ZPc,ZPd,ZPe,ZPf];refine wTy 3 ?v4 rfl ?y4 R0 ?r4
  case y4=>
   intro w_ hS_;go_simp
   try with_reducible rfl
  simp only[Act.put,ZPa,ZPb,ZPc,ZPd,ZPe,ZPf];refine wTy 4 (.int .u64 (dl:Int)) rfl ?y5 R0 ?r5
  case y5=>
   intro w_ hS_;go_simp
   try with_reducible rfl
  simp only[Act.put,ZPa,ZPb,ZPc,ZPd,ZPe,ZPf];refine wTy 7 ?v6 rfl ?y6 R0 ?r6
  case y6=>
   intro w_ hS_;go_simp
   try with_reducible rfl
  simp only[Act.put,ZPa,ZPb,ZPc,ZPd,ZPe,ZPf];refine wTy 8 (.slice ao dl cap) rfl ?y7 R0 ?r7
  case y7=>
   intro w_ hS_;have c_:=cell_of_row _ _ 3 _ _ _ hS_;go_simp
   try with_reducible rfl
  simp only[Act.put,ZPa,ZPb,ZPc,ZPd,ZPe,ZPf];refine wTy 9 ?v8 rfl ?y8 R0 ?r8
  case y8=>
   intro w_ hS_;go_simp
   try with_reducible rfl
  simp only[Act.put,ZPa,ZPb,ZPc,ZPd,ZPe,ZPf]
  refine wpAnyH_one (k:=5) (fuel:=3) (by kernel_rfl) rfl (by kernel_rfl) (fun K_ hK=>?_)
  refine wp_call_ex (f:=84) (by kernel_rfl) (cD y1) (fun v_ y2 hX_=>?_)
  obtain⟨rfl,hb_⟩:=hX_;replace R0:=keep hb_ R0;replace hw:=Below.after hw hb_;clear hb_;refine hK _ _ R0 ?_;simp only[Act.put,ZPa,ZPb,ZPc,ZPd,ZPe,ZPf];clear hK
  refine wpAnyH_take (i:=6) (v:=.int .i64 (at_+(H:Int)+(DL:Int))) rfl (by kernel_rfl) (by kernel_rfl) (by kernel_rfl) (fun _ _ _ h=>h) (Or.inl ⟨by rfl,?y9⟩) R0 ?r9
  case y9=>
   intro w_ hS_;go_simp
   try with_reducible rfl
  simp only[Act.put,ZPa,ZPb,ZPc,ZPd,ZPe,ZPf]
  refine wpAnyH_take (i:=10) (v:=.int .i64 (at_+(H:Int)+(DL:Int)+(dl:Int))) rfl (by kernel_rfl) (by kernel_rfl) (by kernel_rfl) (fun _ _ _ h=>h) (Or.inl ⟨by rfl,?y10⟩) R0 ?r10
  case y10=>
   intro w_ hS_;go_simp
   try with_reducible rfl
  simp only[Act.put,ZPa,ZPb,ZPc,ZPd,ZPe,ZPf];refine wTy 11 ?v11 rfl ?y11 R0 ?r11
  case y11=>
   intro w_ hS_;go_simp
   try with_reducible rfl
  simp only[Act.put,ZPa,ZPb,ZPc,ZPd,ZPe,ZPf]
  refine wpAnyH_done (by kernel_rfl) ?_ _
  refine NoPanic.normal ?_
  go_wp2_with (fail)
  go_ret
  exact⟨_,rfl,by rw[e.out];show Value.int .i64 (at_+(H:Int)+(DL:Int)+(dl:Int))=_;congr 1;omega,hw⟩
 ·have e:=hide (hL5 t)
  subst t
  have c1:=cell_of_row _ _ 1 _ _ _ R0;clear hL0 hL1 hL2 hL5 cN cD
  go_wp2_with (fail)
  go_ret
  exact⟨_,rfl,by rw[e.out];go_num,hw⟩
end Go.Proofs.YtmmlkfkpblokiaaGreatDoor
namespace Go.Proofs.YtmmlkfkpblokiaaGreatDoor
open Go Go.RowKit Go.Sort
theorem gf_take (fs:List Fd) (k i:Nat) (h:i<k):gf (fs.take k) i=gf fs i:=by
 rw[gf,gf,List.getD_eq_getElem?_getD,List.getD_eq_getElem?_getD,List.getElem?_take_of_lt h]
theorem Fds.take {W:World} {ao:Option Addr} {cap l:Nat} {fs:List Fd} (h:Fds W (.slice ao l cap) fs) (k:Nat) (hk:k≤fs.length):Fds W (.slice ao k cap) (fs.take k):=by
 obtain⟨ao',cap',e,h1,h2,h3,h4⟩:=h
 cases e
 have hl:(fs.take k).length=k:=by rw[List.length_take,Nat.min_eq_left hk]
 refine⟨ao,cap,by rw[hl],by omega,by omega,h3,fun i hi=>?_⟩
 rw[hl] at hi;rw[gf_take fs k i hi]
 exact h4 i (by omega)
theorem eer_ok {fs:List Fd}:eer fs=0↔fs.length≤64∧ech fs 0=0∧(ebs fs).length≤4194304:=by
 unfold eer
 by_cases h1:64<fs.length
 ·rw[if_pos h1]
  constructor
  ·intro h;cases h
  ·intro h;omega
 rw[if_neg h1]
 by_cases h2:ech fs 0=0
 ·rw[if_neg (by rw[h2];simp)]
  by_cases h3:4194304<(ebs fs).length
  ·rw[if_pos h3]
   constructor
   ·intro h;cases h
   ·intro h;omega
  ·rw[if_neg h3]
   exact⟨fun _=>⟨by omega,h2,by omega⟩,fun _=>rfl⟩
 ·rw[if_pos h2]
  exact⟨fun h=>absurd h h2,fun h=>absurd h.2.1 h2⟩
theorem ebs_split (fs:List Fd) (c:Nat):ebs fs=ebs (fs.take c)++ebs (fs.drop c):=by
 rw[←ebs_app,List.take_append_drop]
end Go.Proofs.YtmmlkfkpblokiaaGreatDoor
namespace Go.Proofs.YtmmlkfkpblokiaaGreatDoor
open Go Go.RowKit Go.Sort
attribute [local go_sem] setCell_drewN alloc_drewN
theorem infoVI:∃i,Tryz.prog.info? 27=some i∧i.zero=some (.agg #[.int .u64 0,nS,nS])∧i.size=3∧i.bytes=56:=⟨_,rfl,rfl,rfl,rfl⟩
theorem run_bv1 (x y z:Value) (W:World):(Instr.buildSlice 25 1 #[(0,.agg #[x,y,z])]).run Tryz.prog W=.ok (.slice (some ⟨W.heap.size,0,none⟩) 1 1) (W.alloc (.cells #[x,y,z] 27)):=by kernel_rfl
theorem op_bv1 {o:Oper} {a:Act} {w:World} (p:Operand) (ho:o.op=.buildSlice 25 1 #[(0,p)]) (x y z:Value) (hp:a.eval p=.agg #[x,y,z]):(execOp a.eval o).run Tryz.prog w=.ok (.value (.slice (some ⟨w.heap.size,0,none⟩) 1 1)) (w.alloc (.cells #[x,y,z] 27)):=by
 have hr:=run_bv1 x y z w;unfold execOp;simp only[ho,Sem.run_bind,Sem.run_pure,List.map_toArray,List.map_cons,List.map_nil,hp,hr,Result.andThen_ok]
theorem ech_all:∀(fs:List Fd) (last:Int),0≤last→ech fs last=0→∀f∈fs,0≤f.no∧f.no≤536870911∧known f.ty∧fits f
 |[],_,_,_,f,hf=>by simp at hf
 |g::fs,last,h0,h,f,hf=>by
  rw[ech] at h
  split at h
  ·rename_i hne
   exact absurd h hne
  ·rename_i hz
   have hz':fck g last=0:=by simpa using hz
   have hg:0≤g.no∧g.no≤536870911∧known g.ty∧fits g:=by
    unfold fck at hz'
    split at hz'
    ·rename_i h1;exact absurd hz' h1
    ·rename_i h1
     have h1':hck g last=0:=by simpa using h1
     split at hz'
     ·rename_i h2
      unfold hck at h1'
      split at h1'
      ·omega
      ·rename_i h3
       split at h1'
       ·rename_i h4
        exact⟨by omega,by omega,h4,h2⟩
       ·omega
     ·omega
   rcases List.mem_cons.1 hf with rfl|hf
   ·exact hg
   ·exact ech_all fs g.no hg.1 h f hf
theorem whl_pl {d:List B}:∀(k p:Nat) (last:Int) (c:Nat),p≤d.length→∀q e,(whl d k p last c).2=some (q,e)→q≤d.length
 |0,p,last,c,hp,q,e,h=>by simp[whl] at h
 |k+1,p,last,c,hp,q,e,h=>by
  by_cases hlt:p<d.length
  ·rw[whl,if_pos hlt] at h
   cases hr:rh (d.drop p) last c with
   |er e'=>
    rw[hr] at h
    simp at h
    omega
   |ok no ty n=>
    rw[hr] at h;simp only at h;have h1:=rh_ok hr;rw[List.length_drop] at h1
    cases hv:rv (d.drop (p+n)) ty with
    |er e'=>
     rw[hv] at h
     simp at h
     omega
    |ok num dat m=>
     rw[hv] at h;have h2:=rv_ok hv;rw[List.length_drop] at h2
     exact whl_pl k (p+n+m) no (c+1) (by omega) q e h
  ·rw[whl,if_neg hlt] at h
   simp at h
theorem dpl_bd (d:List B):0≤dpl (dwh d)∧dpl (dwh d)≤4194304:=by
 unfold dpl dwh
 by_cases h:4194304<d.length
 ·rw[if_pos h]
  exact⟨by decide,by decide⟩
 ·rw[if_neg h]
  have:=whl_pl (d:=d) d.length 0 0 0 (by omega)
  generalize (whl d d.length 0 0 0).2=x at *
  cases x with
  |none=>exact⟨by decide,by decide⟩
  |some y=>
   obtain⟨q,e⟩:=y;have:=this q e rfl;simp only;omega
theorem gf_mem {fs:List Fd} {i:Nat} (h:i<fs.length):gf fs i∈fs:=by
 rw[gf,List.getD_eq_getElem?_getD,List.getElem?_eq_getElem h];exact List.getElem_mem h
theorem ebs_take (fs:List Fd) (k:Nat) (h:k<fs.length):(ebs (fs.take (k+1))).length=(ebs (fs.take k)).length+(fby (gf fs k)).length:=by
 rw[List.take_add_one,ebs_app,List.length_append,List.getElem?_eq_getElem h]
 simp[ebs_one,gf,List.getD_eq_getElem?_getD,List.getElem?_eq_getElem h]
theorem Fts.at {W:World} {b:Nat} {v:Value} {us:List Value} {fs:List Fd} (h:Fts W b v us fs) {i:Nat} (hi:i<fs.length):∃g cap,v=.slice (some ⟨g,0,none⟩) fs.length cap∧b≤g∧g<W.heap.size∧W.rangeAt g (i*4) (frow (gf fs i) (gv us i)):=by
 obtain⟨h1,h2,h3,_⟩:=h;have h1':=h1
 obtain⟨_,⟨rfl,h0⟩|⟨g,cap,cur,rfl,hb,hg,hn,hm,hs,ht⟩⟩:=h1'
 ·omega
 ·refine⟨g,cap,rfl,hb,lt_of_row hg,fun j x hx=>?_⟩
  have hj:j<4:=by have:=(List.getElem?_eq_some_iff.1 hx).1;exact this
  have:=h1.cells (g:=g) rfl (i*4+j) x (by rw[frs_at fs us i j h2 hi hj];exact hx)
  rw[addr_add,Nat.zero_add] at this;exact this
theorem own_down_row {W:World} {b c:Nat} {e:TypeId} {sz:Nat} {v:Value} {n:Nat} {xs:List Value} (h:W.ownsRow b e sz v n xs) (hc:c≤b):W.ownsRow c e sz v n xs:=by
 obtain⟨q1,q2|⟨g,cap,cur,q2,hb,q3⟩⟩:=h
 ·exact⟨q1,.inl q2⟩
 ·exact⟨q1,.inr ⟨g,cap,cur,q2,by omega,q3⟩⟩
theorem wp_call_upW {P:Program} {o:Oper} {a:Act} {w:World} {K:Act→World→Prop} {Q:Exit→Act→World→Prop} {f:FuncId} {args:Array Value} (base:Nat) (F:Option Flt3) (R:Value→World→Prop) (B:World→Prop) (hx:(execOp a.eval o).run P w=.ok (.enter f args) w)
 (c:Calls P f args w fun e w'=>Gup base F e w' (fun v=>R v w')∧B w') (h:F=none→∀v w',R v w'→B w'→K (a.put o.dst v) w')
 (hp:∀x,F=some x→∀g w',base≤g→w'.heap[g]? =some (.cells (frw x) 41 (0,0))→B w'→Q (.panic [{v:=.iface 70 (.pointer (some ⟨g,0,none⟩)),recovered:=false}]) a w'):o.wp P a w K Q:=by
 unfold Oper.wp;rw[hx,Oper.upon_enter]
 refine c.mono fun e w' ⟨hG,hB⟩=>?_
 cases F with
 |none=>
  obtain⟨v,rfl,hv⟩:=hG;exact h rfl v w' hv hB
 |some x=>
  obtain⟨g,rfl,h1,h2⟩:=hG;exact hp x rfl g w' h1 h2 hB
theorem But.setRow {g:Nat} (w:World) (cs:Array Value):But g w (w.setRow g cs):=⟨rfl,rfl,rfl,by simp,fun k _ hne=>setRow_other w g k cs hne⟩
theorem But.keepBx {g:Nat} {w w':World} (h:But g w w') {k:Nat} {c:Array Value} (hk:Bx w k c) (hne:k≠g):Bx w' k c:=by
 obtain⟨T,hk⟩:=hk;exact⟨T,h.row hk hne⟩
theorem results_row_slot {P:Program} {fn:Func} {p q:Tmp} {ty:TypeId} (h:fn.results=#[.cell p ty,.tmp q]) (tmps:Array Value) (w:World) (g:Nat) (t:TypeId) (cs:Array Value) (fr:Nat×Nat) (d:TypeDesc) (v:Value)
 (hp:tmps.getD p undef=.pointer (some ⟨g,0,none⟩)) (hg:w.heap[g]? =some (.cells cs t fr)) (hq:tmps.getD q undef=v)
 (hu:P.underlying ty=some d) (hd:(match d with| .struct _| .array _ _=>true|_=>false)=true) (hi:(P.info? ty).map (·.size)=some cs.size):
 (results fn tmps).run P w=.ok (.tuple #[.agg cs,v]) w:=by
 have hp':tmps[p]?.getD undef=.pointer (some ⟨g,0,none⟩):=by simpa using hp
 have hq':tmps[q]?.getD undef=v:=by simpa using hq
 simp[results,h,hp',hq',asAddr,run_loadVar_row w g t ty cs fr d hg hu hd hi]
def CgtQ (base:Nat) (f:Option Flt3) (Q:World→Prop) (e:Ending) (w':World):Prop:=
 match f with
 |none=>e=.returned .nilIface∧Q w'
 |some x=>∃g,e=.returned (.iface 70 (.pointer (some ⟨g,0,none⟩)))∧base≤g∧w'.heap[g]? =some (.cells (frw x) 41 (0,0))
theorem a_caughtD (F:Option Flt3) (Q:World→Prop) (ca cb cc:Value) (bv:Nat) (w:World) (hbv:bv<w.heap.size)
 (hQ:∀V V',Q V→But w.heap.size V V'→Q V')
 (hD:∀V,Below w.heap.size w V→w.heap.size<V.heap.size→Calls Tryz.prog 37 #[ca,cb,cc] V fun e w'=>Gup V.heap.size F e w' (fun v=>v=.tuple #[]∧Q w')∧((F≠none→Below V.heap.size V w')∧But bv V w')):
 Calls Tryz.prog 31 #[.func (.func 37) #[] #[ca,cb,cc]] w fun e w'=>CgtQ w.heap.size F Q e w'∧((F≠none→Below w.heap.size w w')∧But bv w w'):=by
 have h0:=hmf;have hb0:Below w.heap.size w (w.alloc (.cells #[.nilIface] 37)):=(Below.refl _ _).alloc (Nat.le_refl _) _;have r0:=hp1_0 w (.cells #[.nilIface] 37)
 have cD:=hD _ hb0 (by simp)
 clear hD
 go_enter_defers Tryz.func31,Tryz.ntmps31
 go_wp2_with (fail)
 refine cD.mono ?_;rintro e_ w1 ⟨hG,hbn,hB⟩
 have r1:=hB.row r0 (by omega)
 have c1:w1.cell? ⟨w.heap.size,0,none⟩=some .nilIface:=by rw[cell_of_row _ _ _ _ _ _ r1];rfl
 have f1:=row_frozen r1 0;have hBw:But bv w w1:=(But.of hb0).trans hB
 cases F with
 |none=>
  obtain⟨v,rfl,rfl,hQ1⟩:=hG;have r2:=heap_setCell_same w1 w.heap.size 0 _ _ .nilIface r1;have hB2:=But.set (g:=w.heap.size) w1 .nilIface;have hQ2:=hQ _ _ hQ1 hB2
  have hBF:But bv w (w1.setCell ⟨w.heap.size,0,none⟩ .nilIface):=⟨hB2.os.trans hBw.os,hB2.tape.trans hBw.tape,hB2.output.trans hBw.output,Nat.le_trans hBw.size hB2.size,fun k hk hne=>(hB2.block k (Nat.lt_of_lt_of_le hk hBw.size) (by omega)).trans (hBw.block k hk hne)⟩
  have c2:(w1.setCell ⟨w.heap.size,0,none⟩ .nilIface).cell? ⟨w.heap.size,0,none⟩=some .nilIface:=by rw[cell_of_row _ _ _ _ _ _ r2];rfl
  go_wp2
  refine leaves_cons (f:=50) (args:=#[.pointer (some ⟨w.heap.size,0,none⟩)]) (by simp) (by simp[go_sem]) ?_
  refine(catch_idle ⟨w.heap.size,0,none⟩ _).mono ?_;rintro e u' w'' ⟨rfl,rfl,rfl⟩
  simp[Leaves,settle,results,Tryz.results31,go_sem,c2]
  exact⟨⟨rfl,hQ2⟩,hBF⟩
 |some f=>
  obtain⟨g,rfl,hg1,hg2⟩:=hG
  have hb1:=hbn (by simp)
  have hw:=Below.after hb0 hb1;have r2:=heap_setCell_same w1 w.heap.size 0 _ _ (.iface 70 (.pointer (some ⟨g,0,none⟩))) r1
  have hw2:=hw.setCell (show w.heap.size≤(⟨w.heap.size,0,none⟩:Addr).block from Nat.le_refl _) (.iface 70 (.pointer (some ⟨g,0,none⟩)))
  have c2:(w1.setCell ⟨w.heap.size,0,none⟩ (.iface 70 (.pointer (some ⟨g,0,none⟩)))).cell? ⟨w.heap.size,0,none⟩=some (.iface 70 (.pointer (some ⟨g,0,none⟩))):=by rw[cell_of_row _ _ _ _ _ _ r2];rfl
  go_wp2
  refine leaves_cons (f:=50) (args:=#[.pointer (some ⟨w.heap.size,0,none⟩)]) (by simp) (by simp[go_sem]) ?_
  refine(catch_panicking ⟨w.heap.size,0,none⟩ .nilIface g [] _ c1 f1).mono ?_;rintro e u' w'' ⟨rfl,rfl,rfl⟩
  simp[Leaves,settle,results,Tryz.results31,go_sem,c2]
  rw[size_alloc1] at hg1
  exact⟨⟨g,rfl,by omega,(heap_setCell_other w1 ⟨w.heap.size,0,none⟩ g _ (show g≠w.heap.size by omega)).trans hg2⟩,hw2,But.of hw2⟩
end Go.Proofs.YtmmlkfkpblokiaaGreatDoor
