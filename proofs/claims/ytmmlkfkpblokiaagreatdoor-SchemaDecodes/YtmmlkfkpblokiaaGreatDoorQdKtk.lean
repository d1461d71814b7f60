import Derived.Test.YtmmlkfkpblokiaaGreatDoorQdKti
namespace Go.Proofs.YtmmlkfkpblokiaaGreatDoor
set_option maxRecDepth 100000
open Go Go.RowKit Go.Sort
attribute [local go_sem] setCell_drewN alloc_drewN
def DeR (w:World) (F:Option Flt3) (X:VT) (e:Ending) (w':World):Prop:=Gup w.heap.size F e w' (fun v=>∃x,v=.agg (vrv x)∧VtO w' (fun b=>w.heap.size≤b) x X)∧Below w.heap.size w w'
theorem own_capT {W:World} {b:Nat} {a:Option Addr} {l c:Nat} {d:List B} (h:Own W b (.slice a l c) d):l≤c:=by
 obtain⟨_,⟨e,_⟩|⟨g,cap,cur,e,_,_,hn,_⟩⟩:=h
 ·cases e;exact Nat.le_refl _
 ·cases e;exact hn
theorem its_item {W:World} {b:Nat} {v:Value} {us:List Value} {ps:List (List B)} (h:Its W b v us ps) {i:Nat} (hi:i<ps.length):∃gx off xc uo uc,v=.slice (some ⟨gx,off,none⟩) ps.length xc∧W.cell? ⟨gx,off+i,none⟩=some (gv us i)∧gv us i=.slice uo (gp ps i).length uc∧Own W b (gv us i) (gp ps i):=by
 obtain⟨h1,h2,h3,_⟩:=h
 obtain⟨uo,uc,hu⟩:=slen_own (h3 i (by omega))
 rcases h1.2 with⟨_,h0⟩|⟨g,cp,cur,p2,pb,pg,p3⟩
 ·omega
 ·have:=h1.cells (g:=g) (by rw[p2];rfl) i (gv us i) (by rw[gv,List.getD_eq_getElem?_getD,List.getElem?_eq_getElem (by omega)];rfl)
  rw[addr_add] at this
  exact⟨g,0,cp,uo,uc,by rw[p2,h2],this,hu,h3 i (by omega)⟩
theorem spl_er_b:∀(f p c:Nat) (l:List B) (e:Int) (q:Nat),spl f p c l=.er e q→e≠0∧q≤p+l.length
 |0,p,c,l,e,q,h=>by rw[spl] at h;cases h
 |f+1,p,c,l,e,q,h=>by
  rw[spl] at h
  by_cases h0:l=[]
  ·rw[if_pos h0] at h;cases h
  rw[if_neg h0] at h
  by_cases h1:c=4096
  ·rw[if_pos h1] at h
   injection h with h2 h3
   exact⟨by omega,by omega⟩
  rw[if_neg h1] at h
  cases hr:ri l with
  |er e'=>
   rw[hr] at h
   injection h with h2 h3
   exact⟨by have:=ri_er hr;omega,by omega⟩
  |ok x n=>
   rw[hr] at h;simp only at h;obtain⟨r1,r2,r3,r4,r5⟩:=ri_ok hr
   cases hs:spl f (p+n) (c+1) (l.drop n) with
   |ok qs=>rw[hs] at h;cases h
   |er e' q'=>
    rw[hs] at h
    injection h with h2 h3
    have:=spl_er_b f (p+n) (c+1) (l.drop n) e' q' hs;rw[List.length_drop] at this
    exact⟨by omega,by omega⟩
theorem spa_bd (d:List B):0≤spa (sp d)∧spa (sp d)≤4194304:=by
 unfold sp
 by_cases h:4194304<d.length
 ·rw[if_pos h];exact⟨by decide,by decide⟩
 ·rw[if_neg h]
  cases hr:spl d.length 0 0 d with
  |ok ps=>exact⟨by show(0:Int)≤0;omega,by show(0:Int)≤4194304;omega⟩
  |er e q=>
   have:=(spl_er_b _ _ _ _ _ _ hr).2
   exact⟨by show(0:Int)≤(q:Int);omega,by show(q:Int)≤4194304;omega⟩
theorem bdrop (bss:List (List B)) (k:Nat) (h:k<bss.length):bss.drop k=gp bss k::bss.drop (k+1):=by
 rw[List.drop_eq_getElem_cons h,gp,List.getD_eq_getElem?_getD,List.getElem?_eq_getElem h];rfl
theorem btake {α:Type} (dv:List B→α) (bss:List (List B)) (k:Nat) (h:k<bss.length):(bss.take (k+1)).map dv=(bss.take k).map dv++[dv (gp bss k)]:=by
 rw[take_snoc bss k h,List.map_append];rfl
set_option maxRecDepth 100000 in
set_option maxHeartbeats 8000000 in
theorem a_decodeAll (dec:List B→Int→Option Flt3) (dv:List B→VT) (so:Option Addr) (sn sc:Nat) (iv:Value) (us:List Value) (bss:List (List B)) (b0:Nat) (from_:Int) (w:World) (hI:Its w b0 iv us bss) (hn:bss.length≤4096) (hJ:(jn bss).length≤4194304) (hfr:0≤from_∧from_+((jn bss).length:Int)≤1152921504606846976)
 (hC:∀V b bv f,Below w.heap.size w V→BysB V bv b→(∀a l c,bv=.slice a l c→l≤c)→0≤f→f+(b.length:Int)≤1152921504606846976→Calls Tryz.prog 38 #[.slice so sn sc,bv,.int .i64 f] V (DeR V (dec b f) (dv b))):
 Calls Tryz.prog 133 #[.slice so sn sc,iv,.int .i64 from_] w (DeR w (itN dec bss from_) (.mk 0 [] (bss.map dv))):=by
 obtain⟨R,hR⟩:∃R,itN dec bss from_=R:=⟨_,rfl⟩
 unfold DeR at *
 rw[hR];have rZ:=hp1_0 w (.cells #[.int .u64 0,.slice none 0 0,.slice none 0 0] 27);have hb0:Below w.heap.size w (w.alloc (.cells #[.int .u64 0,.slice none 0 0,.slice none 0 0] 27)):=(Below.refl _ _).alloc (Nat.le_refl _) _
 have hz0:(w.alloc (.cells #[.int .u64 0,.slice none 0 0,.slice none 0 0] 27)).heap.size=w.heap.size+1:=by simp
 obtain⟨ivo,ivc,rfl⟩:∃ivo ivc,iv=.slice ivo bss.length ivc:=by
  obtain⟨h1,h2,_⟩:=hI
  obtain⟨_,⟨rfl,h0⟩|⟨g,cap,cur,rfl,_⟩⟩:=h1
  ·exact⟨none,0,by rw[←h2,h0]⟩
  ·exact⟨_,_,by rw[h2]⟩
 have hI0:=hide (hI.keep hb0);have HC:=hide hC;have eR:Hid (R=itN dec (bss.drop 0) from_):=hide hR.symm;have hJ0:from_+((jn (bss.drop 0)).length:Int)≤1152921504606846976:=hfr.2;replace hb0:=hide hb0;clear hI hC hR
 go_enter Tryz.func133,Tryz.ntmps133
 go_upto_region 2 with(fail)
 generalize w.alloc (.cells #[.int .u64 0,.slice none 0 0,.slice none 0 0] 27)=w0 at *
 go_wp2_with (fail)
 go_loopw [12,9,7,2] (fun i _ pv fr wr=>∃(k:Nat) (F:Int) (xs:List VR),k≤bss.length∧i=.int .i64 k∧fr=.int .i64 F∧0≤F∧F+((jn (bss.drop k)).length:Int)≤1152921504606846976∧R=itN dec (bss.drop k) F∧PaW wr w0.heap.size w0.heap.size pv xs ((bss.take k).map dv)∧Below w0.heap.size w0 wr) (fun i _ _ _ _=>bss.length-(intOf i).toNat)
 case atStart=>exact⟨0,from_,[],by omega,rfl,rfl,hfr.1,hJ0,eR.out,paw_nil _ _ _,Below.refl _ _⟩
 case round=>
  clear eR hJ0 hfr;obtain⟨k,F,xs,hk,rfl,rfl,hF0,hF1,eR,hP,hby⟩:=hrel
  generalize u7=pv at *
  have hlk:((bss.take k).map dv).length=k:=by rw[List.length_map,List.length_take];omega
  by_cases hlt:k<bss.length
  ·have hd2:decide ((k:Int)<(bss.length:Int))=true:=by simp;omega
   have hmap:=hide (btake dv bss k hlt)
   have hJk:(jn (bss.drop k)).length=(en (gp bss k).length).length+(gp bss k).length+(jn (bss.drop (k+1))).length:=by rw[bdrop bss k hlt,jn,List.length_append,itm_len]
   have hJl:(jn (bss.drop k)).length≤4194304:=by
    have:(jn bss).length=(jn (bss.take k)).length+(jn (bss.drop k)).length:=by rw[←List.length_append,←jn_app,List.take_append_drop]
    omega
   have eR2:R=match dec (gp bss k) (F+((en (gp bss k).length).length:Int)) with
    |some e=>some e
    |none=>itN dec (bss.drop (k+1)) (F+((en (gp bss k).length).length:Int)+((gp bss k).length:Int)):=by
    rw[eR,bdrop bss k hlt,itN];rfl
   clear eR;obtain⟨gx,off,xc,uo,uc,ei,hcell,hgv,hOw⟩:=its_item (hI0.out.keep hby) hlt
   injection ei with ei1 ei2 ei3
   subst ei1 ei3;rw[hgv] at hcell hOw
   have hBb:=hOw.bysB (by omega)
   have hcb:=own_capT hOw
   have cC:=fun V (hV:Below wr.heap.size wr V)=>HC.out V (gp bss k) (.slice uo (gp bss k).length uc) (F+((en (gp bss k).length).length:Int)) (hb0.out.trans ((Below.after hby hV).mono (by omega))) (hBb.keep hV) (fun a l c e=>by cases e;exact hcb) (by omega) (by omega)
   have cS:=a_sizeX (gp bss k).length (by omega)
   obtain⟨Fk,hFk⟩:∃Fk,dec (gp bss k) (F+((en (gp bss k).length).length:Int))=Fk:=⟨_,rfl⟩;rw[hFk] at eR2 cC;replace cC:=hide cC;replace eR2:=hide eR2;clear hFk HC hI0 hgv hOw hBb hcb
   generalize dv (gp bss k)=Xk at *
   generalize (gp bss k).length=L at *
   generalize ((en L).length)=H at *
   have q0:IntKind.wrap .u64 (L:Int)=(L:Int):=by show(L:Int)%18446744073709551616=L;omega
   have q1:IntKind.wrap .i64 (F+(H:Int))=F+(H:Int):=by rw[IntKind.wrap_i64];omega
   have q2:IntKind.wrap .i64 (F+(H:Int)+(L:Int))=F+(H:Int)+(L:Int):=by rw[IntKind.wrap_i64];omega
   replace hJk:=hide hJk;replace hby:=hide hby;replace hP:=hide hP
   go_wp2_with (fail)
   refine(cS wr).mono ?_;rintro e_ w1 ⟨_,rfl,rfl,hb1⟩;have cC1:=cC.out w1 hb1;clear cC cS hcell
   go_wp2_with (fail)
   refine cC1.mono ?_;rintro e_ w2 ⟨hG,hb2⟩;have szr:=hby.out.size;have sz1:=hb1.size;have hb12:=Below.after hb1 hb2;have sz2:=hb2.size;have hP2:=hP.out.keep hb12;have hby2:=Below.after hby.out hb12;have hpo:=own_high_row hP.out.1;clear cC1 hP hby hb1 hb2
   cases Fk with
   |some fl=>
    obtain⟨q,rfl,h1_,h2_⟩:=hG
    go_wp2
    rw[eR2.out]
    exact⟨rfl,⟨q,rfl,by omega,h2_⟩,hb0.out.trans (hby2.mono (by omega))⟩
   |none=>
    obtain⟨v,rfl,x,rfl,hvt⟩:=hG;have eR3:Hid (R=itN dec (bss.drop (k+1)) (F+(H:Int)+(L:Int))):=hide eR2.out;clear eR2
    have hvx:VtO w2 (fun b=>w0.heap.size≤b∧pv.ownBlock≠some b) x Xk:=hvt.wid (fun b hb_=>⟨by omega,fun e=>by have:=(hpo b e).2;omega⟩)
    obtain⟨xn,xda,xdl,xdc,xpa,xpl,xpc⟩:=x;clear hvt hb12;replace hP2:=hide hP2;replace hvx:=hide hvx;replace hby2:=hide hby2;unfold vrv vrw
    go_wp2_with (first|(refine wpList_plain rfl fun K_ hK=>?_;refine wp_world_op (.slice (some ⟨w2.heap.size,0,none⟩) 1 1) (w2.alloc (.cells #[.int .u64 (xn:Int),.slice xda xdl xdc,.slice xpa xpl xpc] 27)) (op_bv1 _ rfl _ _ _ rfl) ?_;refine hK _ _ ?_;clear hK;refine wpList_stay ?_)|fail)
    unfold WpStay;have NV:=new_cells4 w2 #[.int .u64 (xn:Int),.slice xda xdl xdc,.slice xpa xpl xpc] 27;have hb_:Below w2.heap.size w2 (w2.alloc (.cells #[.int .u64 (xn:Int),.slice xda xdl xdc,.slice xpa xpl xpc] 27)):=(Below.refl _ _).alloc (Nat.le_refl _) _;have hP3:=hP2.out.keep hb_;have hvx3:=hvx.out.blw hb_;have hby3:=Below.after hby2.out hb_;have sz3:=hby3.size;clear hP2 hvx hby2 hb_
    try simp only[Act.put,List.getElem_toArray,List.getElem_cons_succ,List.getElem_cons_zero,List.setIfInBounds_toArray,List.set_cons_succ,List.set_cons_zero]
    generalize w2.alloc (.cells #[.int .u64 (xn:Int),.slice xda xdl xdc,.slice xpa xpl xpc] 27)=w3 at *
    generalize w2.heap.size=gV at *
    obtain⟨iV,hiV,hiz,his,hib⟩:=infoVI;have hOk:=hP3.1;rw[hlk] at hOk;have hpo3:=own_high_row hOk
    refine wpList_plain rfl fun K_ hK=>?_
    refine wp_append_nx _ _ 25 rfl w0.heap.size 27 iV (.agg #[.int .u64 0,.slice none 0 0,.slice none 0 0]) 3 56 Tryz.underlying25 hiV hiz his hib rfl (by decide) pv k (vrs xs) rfl hOk ⟨gV,0,none⟩ 1 1 [.int .u64 (xn:Int),.slice xda xdl xdc,.slice xpa xpl xpc] rfl rfl NV (fun x hx=>?_) (by unfold maxLen;omega) (by omega) sz3 (fun pv' w4 hO4 hgr hnx=>?_)
    ·simp at hx
     rcases hx with rfl|rfl|rfl<;>rfl
    have hP4:=hP3.snoc hvx3 (by rw[hlk];exact hO4) hgr hnx
    have hby4:=hby3.grown hgr sz3 (fun z e=>(hpo3 z e).1)
    refine hK _ _ ?_;clear hK hP3 hvx3 hby3 hOk hO4 hgr hnx NV hpo hpo3;simp only[Act.put,List.setIfInBounds_toArray,List.set_cons_succ,List.set_cons_zero];replace hP4:=hide hP4;replace hby4:=hide hby4
    go_wp2_with (fail)
    refine⟨⟨k+1,F+(H:Int)+(L:Int),_,by omega,by go_num,rfl,by omega,by have:=hJk.out;omega,eR3.out,by rw[hmap.out];exact hP4.out,hby4.out⟩,?_⟩
    simp[intOf];omega
  ·obtain rfl:k=bss.length:=by omega
   have hd2:decide ((bss.length:Int)<(bss.length:Int))=false:=by simp
   have eR2:R=none:=by rw[eR,List.drop_length,itN]
   replace eR2:=hide eR2;rw[List.take_length] at hP
   obtain⟨pa,pc,epv,hmsg⟩:=hP.msg (Nat.le_refl _) (by rw[List.length_map];omega)
   rw[List.length_map] at epv hmsg;subst epv
   have rZ3:=(hby.block w.heap.size (by omega)).trans rZ
   have hone:(#[.int .u64 0,.slice none 0 0,.slice pa bss.length pc]:Array Value).all (·.oneCell')=true:=by simp[Value.oneCell']
   have RF:=hide (setRow_heap wr w.heap.size _ #[.int .u64 0,.slice none 0 0,.slice pa bss.length pc] _ _ rZ3)
   have hwF:=hide (below_setRow (g:=w.heap.size) (hb0.out.trans (hby.mono (by omega))) (Nat.le_refl _) #[.int .u64 0,.slice none 0 0,.slice pa bss.length pc])
   have hvF:Hid (VtO (wr.setRow w.heap.size #[.int .u64 0,.slice none 0 0,.slice pa bss.length pc]) (fun b=>w.heap.size≤b) ⟨0,none,0,0,pa,bss.length,pc⟩ (.mk 0 [] (bss.map dv))):=hide (hmsg.other _ _ (fun b hb_=>⟨by omega,by omega⟩))
   clear eR hP hby hmsg HC hI0 hlk
   go_wp2_with (first|(refine wpList_store_row rfl 27 _ _ rfl w.heap.size #[.int .u64 0,.slice none 0 0,.slice pa bss.length pc] rfl rfl 27 _ rZ3 infoV rfl hone ?_)|fail)
   refine bodyPost_ret (v:=.agg #[.int .u64 0,.slice none 0 0,.slice pa bss.length pc]) (results_cell_row Tryz.results133 _ _ w.heap.size _ _ _ _ rfl RF.out Tryz.underlying27 rfl infoV) rfl ⟨?_,hwF.out⟩;rw[eR2.out];exact⟨_,rfl,⟨0,none,0,0,pa,bss.length,pc⟩,rfl,hvF.out⟩
set_option maxRecDepth 100000 in
set_option maxHeartbeats 8000000 in
theorem a_listed3 (P:Nat→Prop) (f:Fd) (da:Option Addr) (dc:Nat) (at_:Int) (g1 g2:Nat) (y:Value) (l m:Nat) (so:Option Addr) (sn sc:Nat) (w:World) (dec:List B→Int→Option Flt3) (dv:List B→VT) (hf:Fdk w P f da dc at_) (hty:f.ty=2) (h1:Bx w g1 #[.int .u64 (l:Int),.int .u64 (m:Int),y]) (h2:Bx w g2 #[.slice so sn sc])
 (hC:∀V b bv f,Below w.heap.size w V→BysB V bv b→(∀a l c,bv=.slice a l c→l≤c)→0≤f→f+(b.length:Int)≤1152921504606846976→Calls Tryz.prog 38 #[.slice so sn sc,bv,.int .i64 f] V (DeR V (dec b f) (dv b))):
 Calls Tryz.prog 131 #[.agg #[.int .i64 f.no,.int .i64 f.ty,.int .u64 (f.num:Int),.slice da f.dat.length dc],.int .i64 at_,ptr g1,ptr g2] w (RdR w P (lsN l m dec f.dat at_ (at_+((fby f).length:Int)-(f.dat.length:Int))) (.mk 0 [] ((spp (sp f.dat)).map dv))):=by
 have cD:=a_dataOf f da dc at_ ⟨hf.a0,by have:=hf.a1;omega⟩ hf.ok hf.no0 hf.no1 hf.kn hf.fb
 have cS:=fun V (hV:Below w.heap.size w V)=>a_split f.dat V (.slice da f.dat.length dc) (hf.hB.keep hV) (fun a l c e=>by cases e;exact hf.hc)
 have hle:=fby_dat hty;have hfb:=hf.fb
 have hA0:0≤at_+((fby f).length:Int)-(f.dat.length:Int):=by have:=hf.a0;omega
 have hA1:at_+((fby f).length:Int)-(f.dat.length:Int)+(f.dat.length:Int)≤1152921504606846976:=by have:=hf.a1;omega
 have hsp:spe (sp f.dat)=0→(spp (sp f.dat)).length≤4096∧jn (spp (sp f.dat))=f.dat:=by
  intro h
  unfold sp at h⊢
  by_cases hb:4194304<f.dat.length
  ·rw[if_pos hb] at h
   exact absurd h (by decide)
  ·rw[if_neg hb] at h⊢
   cases hr:spl f.dat.length 0 0 f.dat with
   |ok ps=>
    have q:=spl_ok _ _ _ _ _ (Nat.le_refl _) (by omega) hr
    exact⟨by show ps.length≤4096;omega,q.1⟩
   |er e p=>
    exfalso
    rw[hr] at h;exact(spl_er_b _ _ _ _ _ _ hr).1 h
 have hpl:0≤spa (sp f.dat)∧spa (sp f.dat)≤4194304:=spa_bd f.dat;obtain⟨R,hR⟩:∃R,lsN l m dec f.dat at_ (at_+((fby f).length:Int)-(f.dat.length:Int))=R:=⟨_,rfl⟩;rw[hR];unfold lsN at hR;unfold RdR;clear hf hty
 generalize at_+((fby f).length:Int)-(f.dat.length:Int)=A at *
 generalize (fby f).length=FL at *
 generalize f.no=fno at *
 generalize f.ty=fty at *
 generalize f.num=num at *
 generalize hdd:f.dat=d at *
 clear hdd f
 generalize hdl:d.length=dl at *
 generalize hspp:spp (sp d)=bss at *
 generalize spa (sp d)=pl at *
 generalize hspe:spe (sp d)=E at *
 clear hspe;replace hspp:=hide hspp;have r0:=hp2_0 w (.cells #[.int .i64 fno,.int .i64 fty,.int .u64 (num:Int),.slice da dl dc] 118) (.cells #[.int .u64 0,.slice none 0 0,.slice none 0 0] 27);have r1:=hp2_1 w (.cells #[.int .i64 fno,.int .i64 fty,.int .u64 (num:Int),.slice da dl dc] 118) (.cells #[.int .u64 0,.slice none 0 0,.slice none 0 0] 27)
 have hb:Below w.heap.size w ((w.alloc (.cells #[.int .i64 fno,.int .i64 fty,.int .u64 (num:Int),.slice da dl dc] 118)).alloc (.cells #[.int .u64 0,.slice none 0 0,.slice none 0 0] 27)):=((Below.refl _ _).alloc (Nat.le_refl _) _).alloc (by simp) _
 have hz:w.heap.size+1<((w.alloc (.cells #[.int .i64 fno,.int .i64 fty,.int .u64 (num:Int),.slice da dl dc] 118)).alloc (.cells #[.int .u64 0,.slice none 0 0,.slice none 0 0] 27)).heap.size:=by simp
 have infoLs:(Tryz.prog.info? 190).map (·.size)=some 3:=by kernel_rfl
 unfold ptr
 go_enter Tryz.func131,Tryz.ntmps131
 go_upto_region 1 with(fail)
 generalize (w.alloc (.cells #[.int .i64 fno,.int .i64 fty,.int .u64 (num:Int),.slice da dl dc] 118)).alloc (.cells #[.int .u64 0,.slice none 0 0,.slice none 0 0] 27)=w0 at *
 go_wp2_with (first|(refine wpList_load_want rfl 118 _ rfl w.heap.size rfl 118 #[.int .i64 fno,.int .i64 fty,.int .u64 (num:Int),.slice da dl dc] (0,0) _ r0 Tryz.underlying118 rfl infoFi ?_)|fail)
 refine(cD w0).mono ?_;rintro e_ w1 ⟨rfl,hb1⟩;replace r0:=keep hb1 r0;replace r1:=keep hb1 r1;replace hz:=Nat.lt_of_lt_of_le hz hb1.size;replace hb:=Below.after hb hb1;have c3:=cell_of_row _ _ 3 _ _ _ r0;have cS1:=cS w1 hb;clear hb1 cD cS
 go_wp2_with (fail)
 refine cS1.mono ?_;rintro e_ w2 ⟨u,us,rfl,hI,hb2⟩;replace r1:=keep hb2 r1;replace hz:=Nat.lt_of_lt_of_le hz hb2.size;replace hb:=Below.after hb hb2;obtain⟨iv,hiv⟩:∃iv,u=iv:=⟨_,rfl⟩;subst hiv;clear hb2 cS1 c3 r0
 by_cases hE:E=0
 ·subst hE
  obtain⟨hbn,hjn⟩:=hsp rfl
  obtain⟨ivo,ivc,rfl⟩:∃ivo ivc,u=.slice ivo bss.length ivc:=by
   obtain⟨h1,h2,_⟩:=hI
   obtain⟨_,⟨rfl,h0⟩|⟨g,cap,cur,rfl,_⟩⟩:=h1
   ·exact⟨none,0,by rw[←h2,h0]⟩
   ·exact⟨_,_,by rw[h2]⟩
  obtain⟨W2,hW2⟩:∃W2,wth (bss.length:Int) (l:Int) (m:Int)=W2:=⟨_,rfl⟩
  have cL:=a_lfits (bss.length:Int) (l:Int) (m:Int) (by omega) y
  have h1':=h1.keep hb;obtain⟨T1,h1'⟩:=h1'
  rw[if_neg (by simp),hW2] at hR
  rw[hW2] at cL;clear hsp hW2
  go_wp2_with (first|(refine wpList_load_want rfl 190 _ rfl g1 rfl T1 #[.int .u64 (l:Int),.int .u64 (m:Int),y] (0,0) _ h1' Tryz.underlying190 rfl infoLs ?_)|fail)
  refine(cL w2).mono ?_;rintro e_ w3 ⟨rfl,hb3⟩;replace r1:=keep hb3 r1;replace hz:=Nat.lt_of_lt_of_le hz hb3.size;replace hb:=Below.after hb hb3;replace hI:=hI.keep hb3;clear cL hb3 h1'
  by_cases hW:W2=0
  ·subst hW
   rw[if_neg (by simp)] at hR
   obtain⟨T2,h2'⟩:=h2.keep hb;have cg2:=cell_of_row _ _ 0 _ _ _ h2'
   have cA:=a_decodeAll dec dv so sn sc (.slice ivo bss.length ivc) us bss _ A w3 hI hbn (by rw[hjn];omega) (by rw[hjn];exact⟨hA0,by rw[hdl];exact hA1⟩) (fun V b bv f hV=>hC V b bv f (Below.after hb hV))
   replace cA:=hide cA;replace hb:=hide hb;clear hI hjn
   go_wp2_with (fail)
   refine cA.out.mono ?_;rintro e_ w4 ⟨hG,hb4⟩;replace r1:=keep hb4 r1;have szb:=hb.out.size;replace hb:=Below.after hb.out hb4;clear cA h2' cg2 hb4;rw[hR] at hG
   cases R with
   |some fl=>
    obtain⟨q,rfl,h1_,h2_⟩:=hG
    go_wp2
    exact⟨rfl,⟨q,rfl,by omega,h2_⟩,hb⟩
   |none=>
    obtain⟨v,rfl,⟨xn,xda,xdl,xdc,xpa,xpl,xpc⟩,rfl,hvt⟩:=hG
    have hone:(#[.int .u64 (xn:Int),.slice xda xdl xdc,.slice xpa xpl xpc]:Array Value).all (·.oneCell')=true:=by simp[Value.oneCell']
    have RF:=hide (setRow_heap w4 (w.heap.size+1) _ #[.int .u64 (xn:Int),.slice xda xdl xdc,.slice xpa xpl xpc] _ _ r1)
    have hwF:=hide (below_setRow (g:=w.heap.size+1) hb (by omega) #[.int .u64 (xn:Int),.slice xda xdl xdc,.slice xpa xpl xpc])
    have hvF:Hid (VtO (w4.setRow (w.heap.size+1) #[.int .u64 (xn:Int),.slice xda xdl xdc,.slice xpa xpl xpc]) (fun b=>P b∨w.heap.size≤b) ⟨xn,xda,xdl,xdc,xpa,xpl,xpc⟩ (.mk 0 [] (bss.map dv))):=hide (hvt.other _ _ (fun b hb_=>⟨by omega,.inr (by omega)⟩))
    clear hvt hb;unfold vrv vrw
    go_wp2_with (first|(refine wpList_store_row rfl 27 _ _ rfl (w.heap.size+1) #[.int .u64 (xn:Int),.slice xda xdl xdc,.slice xpa xpl xpc] rfl rfl 27 _ r1 infoV rfl hone ?_)|fail)
    exact bodyPost_ret (v:=.agg #[.int .u64 (xn:Int),.slice xda xdl xdc,.slice xpa xpl xpc]) (results_cell_row Tryz.results131 _ _ (w.heap.size+1) _ _ _ _ rfl RF.out Tryz.underlying27 rfl infoV) rfl ⟨⟨_,rfl,⟨xn,xda,xdl,xdc,xpa,xpl,xpc⟩,rfl,hvF.out⟩,hwF.out⟩
  ·rw[if_pos hW] at hR
   have hd1:(W2==0)=false:=by simpa using hW
   have eR:=hide hR.symm;clear hR hI r1
   go_wp2_with (fail)
   refine(a_giveUp 0 at_ W2 _).mono ?_;rintro e_ x2 ⟨⟨q,rfl,hql,hqr⟩,hbx⟩;have szx:=hb.size;replace hb:=Below.after hb hbx
   go_wp2
   rw[eR.out]
   exact⟨rfl,⟨q,rfl,by omega,hqr⟩,hb⟩
 ·rw[if_pos hE] at hR
  have hd1:(E==0)=false:=by simpa using hE
  have eR:=hide hR.symm
  have q1:IntKind.wrap .i64 (A+pl)=A+pl:=by rw[IntKind.wrap_i64];omega
  clear hR hI r1 hsp
  go_wp2_with (fail)
  refine(a_giveUp 0 (A+pl) E _).mono ?_;rintro e_ x2 ⟨⟨q,rfl,hql,hqr⟩,hbx⟩;have szx:=hb.size;replace hb:=Below.after hb hbx
  go_wp2
  rw[eR.out]
  exact⟨rfl,⟨q,rfl,by omega,hqr⟩,hb⟩
end Go.Proofs.YtmmlkfkpblokiaaGreatDoor
namespace Go.Proofs.YtmmlkfkpblokiaaGreatDoor
set_option maxRecDepth 100000
open Go Go.RowKit Go.Sort
attribute [local go_sem] setCell_drewN alloc_drewN
theorem Gup.mp {base:Nat} {F:Option Flt3} {e:Ending} {w':World} {R R':Value→Prop} (h:Gup base F e w' R) (hi:∀v,R v→R' v):Gup base F e w' R':=by
 cases F with
 |none=>obtain⟨v,e,hv⟩:=h;exact⟨v,e,hi v hv⟩
 |some x=>exact h
theorem ent_inner3 (args:Array Value) (W:World):(callFunc 125 args).run Tryz.prog W=.ok (.enter 125 args) W:=by kernel_rfl
theorem ent_listed3 (args:Array Value) (W:World):(callFunc 131 args).run Tryz.prog W=.ok (.enter 131 args) W:=by kernel_rfl
theorem a_slotReadT {utf:List B→Bool} {flE:Nat→Nat→Int} {G:World→Prop} (hp:Plo utf flE G) {W:World} {S0:Nat→Prop} {t:Slt} {u:Value} {row:Array Value} (h:SlC W S0 t u row) (hG:G W) (hu:nst t→∃so sn sc,u=.slice so sn sc)
 (hsub:nst t→∀(V:World) (d:List B) (bv:Value) (from_:Int),0≤from_→from_+(d.length:Int)≤1152921504606846976→Below W.heap.size W V→BysB V bv d→(∀a l c,bv=.slice a l c→l≤c)→Calls Tryz.prog 38 #[u,bv,.int .i64 from_] V (DeR V (deT utf flE t.sub d from_) (mgT t.sub d))):∃wt k1 k2 k3 a1 a2 a3,row=rdv t.no wt k1 k2 k3 a1 a2 a3∧wt=wtA t.kind∧(∀args W,(callFunc k3 args).run Tryz.prog W=.ok (.enter k3 args) W)∧
 ∀(P:Nat→Prop) (f:Fd) (da:Option Addr) (dc:Nat) (at_:Int) (w:World),Fdk w P f da dc at_→Below W.heap.size W w→f.ty=wtA t.kind→Calls Tryz.prog k3 (#[.agg #[.int .i64 f.no,.int .i64 f.ty,.int .u64 (f.num:Int),.slice da f.dat.length dc],.int .i64 at_]++a3) w (RdR w P (rdT utf flE t f at_) (vlS t f)):=by
 have fin:∀(P:Nat→Prop) (f:Fd) (da:Option Addr) (dc:Nat) (at_:Int) (w:World),Fdk w P f da dc at_→t.kind≠8→t.kind≠9→∀e w',(Gup w.heap.size (rdE at_ (ftN utf flE t.kind t.least t.most f)) e w' (fun v=>v=.agg (vrw f.num (.slice da f.dat.length dc) (.slice none 0 0)))∧Below w.heap.size w w')→RdR w P (rdT utf flE t f at_) (vlS t f) e w':=by
  intro P f da dc at_ w hf h8 h9 e w' hx
  have e1:rdT utf flE t f at_=rdE at_ (ftN utf flE t.kind t.least t.most f):=by unfold rdT rdN;rw[if_neg h8,if_neg h9]
  have e2:vlS t f=.mk f.num f.dat []:=by unfold vlS vlN;rw[if_neg h8,if_neg h9]
  rw[e1,e2]
  exact⟨hx.1.mp (fun v hv=>⟨⟨f.num,da,f.dat.length,dc,none,0,0⟩,hv,plain_tree hf hx.2 (fun b hb=>.inl hb)⟩),hx.2⟩
 have num:∀(wt l m:Int),PlC W S0 t.no wt 90 #[.int .i64 wt,.int .u64 l,.int .u64 m] row→wtA t.kind=wt→t.kind≠8→t.kind≠9→(∀f:Fd,ftN utf flE t.kind t.least t.most f=wth (f.num:Int) l m)→∃wt k1 k2 k3 a1 a2 a3,row=rdv t.no wt k1 k2 k3 a1 a2 a3∧wt=wtA t.kind∧(∀args W,(callFunc k3 args).run Tryz.prog W=.ok (.enter k3 args) W)∧
  ∀(P:Nat→Prop) (f:Fd) (da:Option Addr) (dc:Nat) (at_:Int) (w:World),Fdk w P f da dc at_→Below W.heap.size W w→f.ty=wtA t.kind→Calls Tryz.prog k3 (#[.agg #[.int .i64 f.no,.int .i64 f.ty,.int .u64 (f.num:Int),.slice da f.dat.length dc],.int .i64 at_]++a3) w (RdR w P (rdT utf flE t f at_) (vlS t f)):=by
  intro wt l m ⟨g0,g1,g2,g4,gs,e,h0,h1,h2,h4,h5⟩ hwt h8 h9 hE
  refine⟨wt,_,_,_,_,_,_,e,hwt.symm,ent_plain3,fun P f da dc at_ w hf hb _=>?_⟩
  refine(a_plain3 _ (.inl rfl) f.num f.no f.ty da f.dat.length dc at_ _ g2 gs w (h2.2.keep hb) (fun V hV=>a_fitNum f.num da f.dat.length dc none 0 0 wt l m gs V (h5.2.keep (Below.after hb hV)))).mono fun e w' hx=>fin P f da dc at_ w hf h8 h9 e w' ?_
  rw[hE f];exact hx
 rcases h with⟨hk,h⟩|⟨hk,h⟩|⟨hk,h⟩|⟨hk,h⟩|⟨hk,h⟩|⟨hk,h⟩|⟨hk,h⟩|⟨hk,h⟩
 ·exact num 0 _ _ h (by rw[hk];rfl) (by omega) (by omega) (fun f=>by unfold ftN plE8;rw[if_neg (by omega),if_neg (by omega),if_neg (by omega),if_neg (by omega)];rfl)
 ·exact num 5 _ _ h (by rw[hk];rfl) (by omega) (by omega) (fun f=>by unfold ftN plE8;rw[if_neg (by omega),if_neg (by omega),if_neg (by omega),if_neg (by omega)];rfl)
 ·exact num 1 _ _ h (by rw[hk];rfl) (by omega) (by omega) (fun f=>by unfold ftN plE8;rw[if_neg (by omega),if_neg (by omega),if_neg (by omega),if_neg (by omega)];rfl)
 ·exact num 0 _ _ h (by rw[hk];rfl) (by omega) (by omega) (fun f=>by unfold ftN plE8;rw[if_neg (by omega),if_neg (by omega),if_neg (by omega),if_pos hk];rfl)
 ·obtain⟨g0,g1,g2,g4,gs,e,h0,h1,h2,h4,h5⟩:=h
  refine⟨2,_,_,_,_,_,_,e,by rcases hk with hk|hk<;>rw[hk]<;>rfl,ent_plain3,fun P f da dc at_ w hf hb _=>?_⟩
  rcases hk with hk|hk
  ·rw[show(t.kind==6)=false by rw[hk];rfl] at h5
   have he:ftN utf flE t.kind t.least t.most f=wth (f.dat.length:Int) (t.least:Int) (t.most:Int):=by unfold ftN plE8;rw[if_pos hk];rfl
   refine(a_plain3 _ (.inr (.inr rfl)) f.num f.no f.ty da f.dat.length dc at_ _ g2 gs w (h2.2.keep hb) (fun V hV=>a_fitOct f.num da f.dat.length dc none 0 0 _ _ (by have:=hf.ok.2.1;omega) gs V (h5.2.keep (Below.after hb hV)))).mono fun e w' hx=>fin P f da dc at_ w hf (by omega) (by omega) e w' ?_
   rw[he];exact hx
  ·rw[show(t.kind==6)=true by rw[hk];rfl] at h5
   have he:ftN utf flE t.kind t.least t.most f=txE utf (t.least:Int) (t.most:Int) f.dat:=by unfold ftN plE8 txE;rw[if_neg (by omega),if_pos hk];rfl
   refine(a_plain3 _ (.inr (.inr rfl)) f.num f.no f.ty da f.dat.length dc at_ _ g2 gs w (h2.2.keep hb) (fun V hV=>a_fitTxt hp f.num da f.dat.length dc hf.hc none 0 0 f.dat _ _ (by have:=hf.ok.2.1;omega) gs V (hp.keep _ _ hG (Below.after hb hV)) (hf.hB.keep hV) rfl (h5.2.keep (Below.after hb hV)))).mono fun e w' hx=>fin P f da dc at_ w hf (by omega) (by omega) e w' ?_
   rw[he];exact hx
 ·obtain⟨g0,g1,g2,g4,gs,e,h0,h1,h2,h4,h5⟩:=h
  refine⟨1,_,_,_,_,_,_,e,by rw[hk];rfl,ent_plain3,fun P f da dc at_ w hf hb _=>?_⟩
  have he:ftN utf flE t.kind t.least t.most f=flE f.num t.most:=by unfold ftN plE8;rw[if_neg (by omega),if_neg (by omega),if_pos hk];rfl
  refine(a_plain3 _ (.inr (.inl rfl)) f.num f.no f.ty da f.dat.length dc at_ _ g2 gs w (h2.2.keep hb) (fun V hV=>a_fitFlt hp f.num t.most hf.ok.1 da f.dat.length dc none 0 0 gs V (h5.2.keep (Below.after hb hV)))).mono fun e w' hx=>fin P f da dc at_ w hf (by omega) (by omega) e w' ?_
  rw[he];exact hx
 ·obtain⟨so,sn,sc,rfl⟩:=hu (.inl hk)
  obtain⟨g0,g1,e,h0,h1⟩:=h
  refine⟨2,_,_,_,_,_,_,e,by rw[hk];rfl,ent_inner3,fun P f da dc at_ w hf hb hty=>?_⟩
  have hty2:f.ty=2:=by rw[hty,hk];rfl
  have hle:=fby_dat hty2
  have e1:rdT utf flE t f at_=deT utf flE t.sub f.dat (at_+((fby f).length:Int)-(f.dat.length:Int)):=by unfold rdT rdN;rw[if_pos hk]
  have e2:vlS t f=mgT t.sub f.dat:=by unfold vlS vlN;rw[if_pos hk]
  rw[e1,e2]
  exact a_inner3 P f da dc at_ g1 so sn sc w _ _ hf (h1.2.keep hb) (fun V hV=>hsub (.inl hk) V f.dat _ _ (by have:=hf.a0;omega) (by have:=hf.a1;omega) (Below.after hb hV) (hf.hB.keep hV) (fun a l c q=>by cases q;exact hf.hc))
 ·obtain⟨so,sn,sc,rfl⟩:=hu (.inr hk)
  obtain⟨g0,g1,g2,y,e,h0,h1,h2⟩:=h
  refine⟨2,_,_,_,_,_,_,e,by rw[hk];rfl,ent_listed3,fun P f da dc at_ w hf hb hty=>?_⟩
  have hty2:f.ty=2:=by rw[hty,hk];rfl
  have e1:rdT utf flE t f at_=lsN t.least t.most (deT utf flE t.sub) f.dat at_ (at_+((fby f).length:Int)-(f.dat.length:Int)):=by unfold rdT rdN;rw[if_neg (by omega),if_pos hk]
  have e2:vlS t f=.mk 0 [] ((spp (sp f.dat)).map (mgT t.sub)):=by unfold vlS vlN;rw[if_neg (by omega),if_pos hk]
  rw[e1,e2]
  exact a_listed3 P f da dc at_ g1 g2 y t.least t.most so sn sc w _ _ hf hty2 (h1.2.keep hb) (h2.2.keep hb) (fun V b bv q hV hB hc h0 h1=>hsub (.inr hk) V b bv q h0 h1 (Below.after hb hV) hB hc)
set_option maxRecDepth 100000 in
set_option maxHeartbeats 16000000 in
theorem a_decodeT {utf:List B→Bool} {flE:Nat→Nat→Int} {G:World→Prop} (hp:Plo utf flE G) {W:World} {S:Nat→Prop} {v:Value} {ts:List Slt} (h:RdL W S v ts) (hG:G W):∀(w:World) (d:List B) (bv:Value) (from_:Int),0≤from_→from_+(d.length:Int)≤1152921504606846976→Below W.heap.size W w→BysB w bv d→(∀a l c,bv=.slice a l c→l≤c)→
 Calls Tryz.prog 38 #[v,bv,.int .i64 from_] w (DeR w (deT utf flE ts d from_) (mgT ts d)):=by
 induction h with
 |mk ao cap ts rows us_ hl hc hnn h hs ih=>
  intro w d bv from_ hf0 hf1 hw hB hcap
  have hsl:=hide (fun k (hlt:k<ts.length)=>fun hSl=>a_slotReadT hp (W:=W) (S0:=S) (t:=gs ts k) (u:=us_ k) (row:=rows k) hSl hG (fun hn=>by obtain⟨a,c,q⟩:=(hs k hlt hn).form;exact⟨a,_,c,q⟩) (fun hn=>ih k hlt hn))
  clear hs ih;have rZ:=hp1_0 w (.cells #[.int .u64 0,.slice none 0 0,.slice none 0 0] 27);have hb0:Below w.heap.size w (w.alloc (.cells #[.int .u64 0,.slice none 0 0,.slice none 0 0] 27)):=(Below.refl _ _).alloc (Nat.le_refl _) _
  have hz0:(w.alloc (.cells #[.int .u64 0,.slice none 0 0,.slice none 0 0] 27)).heap.size=w.heap.size+1:=by simp
  have cDe:=hide (a_decode d (w.alloc (.cells #[.int .u64 0,.slice none 0 0,.slice none 0 0] 27)) bv (hB.keep hb0) hcap);unfold DeR mgT;obtain⟨R,hR⟩:∃R,deT utf flE ts d from_=R:=⟨_,rfl⟩;rw[hR];replace hb0:=hide hb0;replace rZ:=hide rZ;clear hB hcap
  go_enter Tryz.func38,Tryz.ntmps38
  go_upto_region 1 with(fail)
  generalize w.alloc (.cells #[.int .u64 0,.slice none 0 0,.slice none 0 0] 27)=w0 at *
  go_wp2_with (fail)
  refine cDe.out.mono ?_;rintro e_ y ⟨fv,us,rfl,hFt,hb1⟩;have rZ1:=hide (keep hb1 rZ.out);have lz:=lt_of_row rZ.out;have lzy:=hb1.size;have szy0:=hide lzy;have hw0:=hide (Below.after hb0.out hb1);have hwy:=hide (Below.after hw hw0.out);clear cDe rZ hb1 hb0
  by_cases hde:der (dwh d)=0
  ·have hfok:=dfs_oks d
   have hf64:=dfs_len d hde
   have hee:=eer_ok.1 (dec_enc hde).1
   have hkn:∀i,i<(dfs (dwh d)).length→_:=fun i hi=>ech_all _ 0 (by decide) hee.2.1 _ (gf_mem hi)
   have hebs:=hee.2.2
   have hebd:(ebs (dfs (dwh d))).length=d.length:=by
    have q:=(dec_enc hde).2;rw[eout,if_pos (dec_enc hde).1] at q;rw[q]
   have eR:R=dcT utf flE (ts.drop 0) ((dfs (dwh d)).drop 0) (from_+((ebs ((dfs (dwh d)).take 0)).length:Int)):=by rw[←hR,deT,decN,if_neg (by omega)];simp[ebs]
   rw[hde];clear hR hee hde
   generalize hfs:dfs (dwh d)=fs at *
   replace hfs:=hide hfs
   generalize dpl (dwh d)=pl at *
   obtain⟨fo,fcap,rfl⟩:∃fo fcap,fv=.slice fo fs.length fcap:=by
    obtain⟨_,⟨rfl,h0⟩|⟨g,cap,cur,rfl,_⟩⟩:=hFt.1
    ·exact⟨none,0,by rw[h0]⟩
    ·exact⟨_,_,rfl⟩
   replace hFt:=hide hFt;replace eR:=hide eR
   go_wp2_with (fail)
   go_loopw [30,10,11,12,13] (fun i pv at_ _ _ wr=>∃(k:Nat) (xs:List VR),k≤ts.length∧k≤fs.length∧i=.int .i64 k∧at_=.int .i64 (from_+((ebs (fs.take k)).length:Int))∧R=dcT utf flE (ts.drop k) (fs.drop k) (from_+((ebs (fs.take k)).length:Int))∧PaW wr w0.heap.size y.heap.size pv xs (vlT (ts.take k) (fs.take k))∧Below y.heap.size y wr) (fun i _ _ _ _ _=>ts.length-(intOf i).toNat)
   case atStart=>exact⟨0,[],by omega,by omega,rfl,by simp[ebs],eR.out,by rw[List.take_zero,List.take_zero,vlT_nil];exact paw_nil _ _ _,Below.refl _ _⟩
   case round=>
    clear eR;obtain⟨k,xs,hk,hkl,rfl,rfl,eR,hPw,hby⟩:=hrel
    have hlk:=hide (show(vlT (ts.take k) (fs.take k)).length=k by rw[vlT_len _ _ (by rw[List.length_take,List.length_take];omega),List.length_take];omega)
    by_cases hlt:k<ts.length
    ·generalize u10=pv at *
     have hdk:decide ((k:Int)<(ts.length:Int))=true:=by simp;omega
     obtain⟨b,rfl,hbl,_,hra,hSl⟩:=h k hlt;obtain⟨wt,k1,k2,k3,a1,a2,a3,hrow,hwt,hent,hcall⟩:=hsl.out k hlt hSl;rw[hrow] at hra;have szwr:=hby.size
     have hWw:Below W.heap.size W wr:=hwy.out.trans (hby.mono (by have:=hwy.out.size;omega))
     have hrw:=rangeS_keep2 hra hWw hbl;have hpo:∀z,pv.ownBlock=some z→y.heap.size≤z∧z<wr.heap.size:=own_high_row hPw.1;have hba:Below wr.heap.size wr (wr.alloc (.cells #[.int .i64 0,.int .i64 0,.nilFunc,.nilFunc,.nilFunc] 114)):=(Below.refl _ _).alloc (Nat.le_refl _) _;have rS:=hp1_0 wr (.cells #[.int .i64 0,.int .i64 0,.nilFunc,.nilFunc,.nilFunc] 114)
     have hone:(rdv (gs ts k).no wt k1 k2 k3 a1 a2 a3).all (·.oneCell')=true:=by simp[rdv,Value.oneCell']
     have hbb:=below_setRow (g:=wr.heap.size) hba (Nat.le_refl _) (rdv (gs ts k).no wt k1 k2 k3 a1 a2 a3);have rS2:=setRow_heap _ wr.heap.size _ (rdv (gs ts k).no wt k1 k2 k3 a1 a2 a3) _ _ rS;replace hPw:=hPw.keep hbb;have hfy:=hby;replace hby:=Below.after hby hbb;clear hba hbb hra hrow;replace hwt:=hide hwt
     by_cases hkf:k=fs.length
     ·rw[dcT_short utf flE hlt hkf.symm] at eR
      subst hkf
      rw[List.take_length] at eR;replace eR:=hide eR
      unfold rdv at *
      generalize (gs ts fs.length).no=no at *
      replace hby:=hide hby;clear hcall hSl hPw rS2 hfy hpo hWw hlk hsl;rw[List.take_length]
      generalize from_+((ebs fs).length:Int)=at_ at *
      go_upto_region 9 with(first|(refine wpList_load_mid rfl 114 _ rfl b (fs.length*5) rfl _ _ hrw Tryz.underlying114 rfl infoSt' ?_)|(refine wpList_store_row rfl 114 _ _ rfl wr.heap.size #[.int .i64 no,.int .i64 wt,.func (.func k1) #[] a1,.func (.func k2) #[] a2,.func (.func k3) #[] a3] rfl rfl 114 _ rS infoSt' rfl hone ?_)|fail)
      try unfold WpStay
      generalize (wr.alloc (.cells #[.int .i64 0,.int .i64 0,.nilFunc,.nilFunc,.nilFunc] 114)).setRow wr.heap.size #[.int .i64 no,.int .i64 wt,.func (.func k1) #[] a1,.func (.func k2) #[] a2,.func (.func k3) #[] a3]=x0 at *
      go_wp2_with (fail)
      refine(a_giveUp 0 at_ 81 _).mono ?_;rintro e_ x2 ⟨⟨g,rfl,hgl,hgr⟩,hb2⟩;have szx:=hby.out.size;have szy:=hw0.out.size;have hz:=Below.after hby.out hb2
      go_wp2
      rw[eR.out]
      exact⟨rfl,⟨g,rfl,by omega,hgr⟩,hw0.out.trans (hz.mono (by omega))⟩
     ·have hkf2:k<fs.length:=by omega
      have hdf:((k:Int)==(fs.length:Int))=false:=by simp;omega
      have hdf2:¬(k:Int)=(fs.length:Int):=by omega
      rw[dcT_step utf flE hlt hkf2] at eR;obtain⟨fb,fcap2,efv,hfb1,hfb2,hfrow⟩:=(hFt.out).at hkf2
      cases efv
      replace hfrow:=rangeS_keep2 hfrow hby hfb2;obtain⟨hk0,hk1,hk2,hk3⟩:=hkn k hkf2;have hfo:=hfok k hkf2
      have hsum:(ebs fs).length=(ebs (fs.take k)).length+(ebs (fs.drop k)).length:=by
       have e:=ebs_split fs k;rw[←List.length_append,←e]
      have hat1:Hid (from_+((ebs (fs.take k)).length:Int)+((fby (gf fs k)).length:Int)=from_+((ebs (fs.take (k+1))).length:Int)):=hide (by rw[ebs_take fs k hkf2];omega)
      have hsum1:(ebs fs).length=(ebs (fs.take (k+1))).length+(ebs (fs.drop (k+1))).length:=by
       have e:=ebs_split fs (k+1);rw[←List.length_append,←e]
      have htk:=ebs_take fs k hkf2
      have hfbl:(fby (gf fs k)).length≤4194304:=by omega
      have hdl4:(gf fs k).dat.length≤4194304:=by
       by_cases ht:(gf fs k).ty=2
       ·have:=fby_dat ht;omega
       ·unfold fits at hk3
        rw[if_neg ht] at hk3
        rw[hk3.1]
        simp
      have hOw:=hFt.out.2.2.1 k (by rw[hFt.out.2.1];exact hkf2)
      obtain⟨fda,fdc,hus,hBd,hblk⟩:=own_told hOw hdl4;rw[hus] at hOw
      have hat0:0≤from_+((ebs (fs.take k)).length:Int)∧from_+((ebs (fs.take k)).length:Int)≤4611686018427387904:=by omega
      have hFk:Fdk y (fun b=>w0.heap.size≤b∧b<y.heap.size) (gf fs k) fda fdc (from_+((ebs (fs.take k)).length:Int)):=⟨hBd,own_capT hOw,fun a e=>⟨⟨(hblk a e).2,(hblk a e).1⟩,(hblk a e).1⟩,hfo,hk0,hk1,hk2,hfbl,hat0.1,by omega,own_down_row hOw (Nat.zero_le _),fun k_ q=>own_high_row hOw k_ q⟩
      have hvk:=hide (vlT_take ts fs k hlt hkf2)
      have cE:=hide (fun V=>a_endOf (gf fs k) fda fdc (from_+((ebs (fs.take k)).length:Int)) hat0 hfo hk0 hk1 hk2 V)
      have cD:=hide (fun V (hV:Below y.heap.size y V)=>a_slotDecodeT (gs ts k).no wt k1 k2 k3 a1 a2 a3 (gf fs k).no (gf fs k).ty (gf fs k).num fda (gf fs k).dat.length fdc (from_+((ebs (fs.take k)).length:Int)) (rdT utf flE (gs ts k) (gf fs k) (from_+((ebs (fs.take k)).length:Int))) (fun b=>w0.heap.size≤b∧b<y.heap.size) (vlS (gs ts k) (gf fs k)) V (fun b hb=>by have:=hV.size;omega) hent (fun V' hV' _ hty=>hcall _ (gf fs k) fda fdc _ V' (hFk.keep (Below.after hV hV')) (hwy.out.trans ((Below.after hV hV').mono (by have:=hwy.out.size;omega))) (hty.trans hwt.out)))
      obtain⟨F,hF⟩:∃F,dsT utf flE (gs ts k) (gf fs k) (from_+((ebs (fs.take k)).length:Int))=F:=⟨_,rfl⟩;rw[hF] at eR
      rw[show(if(gf fs k).no≠(gs ts k).no then some ⟨0,from_+((ebs (fs.take k)).length:Int),81⟩ else if(gf fs k).ty≠wt then some ⟨0,from_+((ebs (fs.take k)).length:Int),82⟩ else rdT utf flE (gs ts k) (gf fs k) (from_+((ebs (fs.take k)).length:Int)))=F by rw[←hF,dsT,dsN,←hwt.out];rfl] at cD
      replace eR:=hide eR
      have hfl3:(gf fs k).dat.length<9223372036854775808:=by omega
      unfold rdv frow at *
      rw[hus] at hfrow;rw[hat1.out] at eR;clear hcall hSl hF hus hfo hk0 hk1 hk2 hk3 hat0 hwt hFk hOw hBd hblk hdl4 hfbl htk hsum1 hsum hsl
      generalize vlS (gs ts k) (gf fs k)=X at *
      generalize from_+((ebs (fs.take k)).length:Int)=at_ at *
      generalize ((fby (gf fs k)).length:Int)=FL at *
      generalize (gf fs k).no=fno at *
      generalize (gf fs k).ty=fty at *
      generalize (gf fs k).num=fnum at *
      generalize (gf fs k).dat.length=fdl at *
      generalize (gs ts k).no=no at *
      replace hby:=hide hby;replace hPw:=hide hPw;replace rS2:=hide rS2;replace hfrow:=hide hfrow
      go_upto_region 9 with(first|(refine wpList_load_mid rfl 114 _ rfl b (k*5) rfl _ _ hrw Tryz.underlying114 rfl infoSt' ?_)|(refine wpList_store_row rfl 114 _ _ rfl wr.heap.size #[.int .i64 no,.int .i64 wt,.func (.func k1) #[] a1,.func (.func k2) #[] a2,.func (.func k3) #[] a3] rfl rfl 114 _ rS infoSt' rfl hone ?_)|fail)
      try unfold WpStay
      generalize (wr.alloc (.cells #[.int .i64 0,.int .i64 0,.nilFunc,.nilFunc,.nilFunc] 114)).setRow wr.heap.size #[.int .i64 no,.int .i64 wt,.func (.func k1) #[] a1,.func (.func k2) #[] a2,.func (.func k3) #[] a3]=x0 at *
      go_upto_region 11 with(fail)
      have hbd:Below x0.heap.size x0 x0.drew:=below_drN (Below.refl _ _) 1
      have HS:(fun W:World=>W.heap[wr.heap.size]? =some (.cells #[.int .i64 no,.int .i64 wt,.func (.func k1) #[] a1,.func (.func k2) #[] a2,.func (.func k3) #[] a3] 114 (0,0))∧W.rangeAt fb (k*4) [.int .i64 fno,.int .i64 fty,.int .u64 (fnum:Int),.slice fda fdl fdc]) x0.drew:=⟨rS2.out,hfrow.out⟩
      replace hPw:=hPw.out.keep hbd;replace hby:=Below.after hby.out hbd
      have hi9:0≤(k:Int)∧(k:Int)<(fs.length:Int):=by omega
      clear hbd rS2 hfrow rS hfy hWw hrw hent hone hdk hdf hdf2 hkn hfok h
      generalize wr.heap.size=gS at *
      refine wp_region_held (S:=fun W:World=>W.heap[gS]? =some (.cells #[.int .i64 no,.int .i64 wt,.func (.func k1) #[] a1,.func (.func k2) #[] a2,.func (.func k3) #[] a3] 114 (0,0))∧W.rangeAt fb (k*4) [.int .i64 fno,.int .i64 fty,.int .u64 (fnum:Int),.slice fda fdl fdc]) (by kernel_rfl) ?_
      change wpAnyH _ _ _ _ _ _ _ _ (World.drew _)
      generalize x0.drew=x1 at *
      refine wpAnyH_take (i:=0) (v:=?v8) rfl (by kernel_rfl) (by kernel_rfl) (by kernel_rfl) (fun _ _ _ h=>h) (Or.inl ⟨by rfl,?y8⟩) HS ?r8
      case y8=>
       intro w_ hS_;go_simp
       try with_reducible rfl
      simp only[Act.put,List.getElem_toArray,List.getElem_cons_zero,List.setIfInBounds_toArray,List.set_cons_succ,List.set_cons_zero]
      refine wpAnyH_take (i:=1) (v:=.agg #[.int .i64 no,.int .i64 wt,.func (.func k1) #[] a1,.func (.func k2) #[] a2,.func (.func k3) #[] a3]) rfl (by kernel_rfl) (by kernel_rfl) (by kernel_rfl) (fun _ _ _ h=>h) (yieldsIf_load_mid (by rfl) 114 _ rfl gS 0 rfl [.int .i64 no,.int .i64 wt,.func (.func k1) #[] a1,.func (.func k2) #[] a2,.func (.func k3) #[] a3] _ (fun _ h=>range_row ⟨_,h.1⟩) Tryz.underlying114 rfl infoSt') HS ?_
      simp only[Act.put,List.getElem_toArray,List.getElem_cons_succ,List.getElem_cons_zero,List.setIfInBounds_toArray,List.set_cons_succ,List.set_cons_zero]
      refine wpAnyH_take (i:=2) (v:=?v10) rfl (by kernel_rfl) (by kernel_rfl) (by kernel_rfl) (fun _ _ _ h=>h) (Or.inl ⟨by rfl,?y10⟩) HS ?r10
      case y10=>
       intro w_ hS_;go_simp
       try with_reducible rfl
      simp only[Act.put,List.getElem_toArray,List.getElem_cons_succ,List.getElem_cons_zero,List.setIfInBounds_toArray,List.set_cons_succ,List.set_cons_zero]
      refine wpAnyH_take (i:=3) (v:=?v11) rfl (by kernel_rfl) (by kernel_rfl) (by kernel_rfl) (fun _ _ _ h=>h) (Or.inl ⟨by rfl,?y11⟩) HS ?r11
      case y11=>
       intro w_ hS_;go_simp
       try with_reducible rfl
      simp only[Act.put,List.getElem_toArray,List.getElem_cons_succ,List.getElem_cons_zero,List.setIfInBounds_toArray,List.set_cons_succ,List.set_cons_zero]
      refine wpAnyH_take (i:=4) (v:=?v12) rfl (by kernel_rfl) (by kernel_rfl) (by kernel_rfl) (fun _ _ _ h=>h) (Or.inl ⟨by rfl,?y12⟩) HS ?r12
      case y12=>
       intro w_ hS_;go_simp
       try with_reducible rfl
      simp only[Act.put,List.getElem_toArray,List.getElem_cons_succ,List.getElem_cons_zero,List.setIfInBounds_toArray,List.set_cons_succ,List.set_cons_zero]
      refine wpAnyH_take (i:=5) (v:=.agg #[.int .i64 fno,.int .i64 fty,.int .u64 (fnum:Int),.slice fda fdl fdc]) rfl (by kernel_rfl) (by kernel_rfl) (by kernel_rfl) (fun _ _ _ h=>h) (yieldsIf_load_mid (by rfl) 118 _ rfl fb (k*4) rfl [.int .i64 fno,.int .i64 fty,.int .u64 (fnum:Int),.slice fda fdl fdc] _ (fun _ h=>h.2) Tryz.underlying118 rfl infoFi) HS ?_
      simp only[Act.put,List.getElem_toArray,List.getElem_cons_succ,List.getElem_cons_zero,List.setIfInBounds_toArray,List.set_cons_succ,List.set_cons_zero]
      refine wpAnyH_take (i:=6) (v:=?v14) rfl (by kernel_rfl) (by kernel_rfl) (by kernel_rfl) (fun _ _ _ h=>h) (Or.inl ⟨by rfl,?y14⟩) HS ?r14
      case y14=>
       intro w_ hS_;go_simp
       try with_reducible rfl
      simp only[Act.put,List.getElem_toArray,List.getElem_cons_succ,List.getElem_cons_zero,List.setIfInBounds_toArray,List.set_cons_succ,List.set_cons_zero]
      refine wpAnyH_one (k:=7) (fuel:=3) (by kernel_rfl) rfl (by kernel_rfl) (fun K_ hK=>?_)
      refine wp_call_upW (base:=x1.heap.size) (F:=F) (R:=fun v w'=>∃x,v=.agg (vrv x)∧VtO w' (fun b=>(w0.heap.size≤b∧b<y.heap.size)∨x1.heap.size≤b) x X) (B:=fun w'=>Below x1.heap.size x1 w') (by kernel_rfl) (cD.out x1 hby) ?_ ?_
      ·rintro hF v_ x2 ⟨⟨xn,xda,xdl,xdc,xpa,xpl,xpc⟩,rfl,hvt⟩ hb_
       rw[hF] at eR
       have lgs:=lt_of_row HS.1;have szy1:=hby.size;have szw0:=szy0.out;have lgsx:gS<x1.heap.size:=lgs;replace hPw:=hPw.keep hb_;have szb_x2:=hb_.size
       have HS':(fun W:World=>W.heap[gS]? =some (.cells #[.int .i64 no,.int .i64 wt,.func (.func k1) #[] a1,.func (.func k2) #[] a2,.func (.func k3) #[] a3] 114 (0,0))∧W.rangeAt fb (k*4) [.int .i64 fno,.int .i64 fty,.int .u64 (fnum:Int),.slice fda fdl fdc]) _:=⟨keep hb_ HS.1,rangeS_keep2 HS.2 hb_ (by omega)⟩
       replace HS:=HS';clear HS';replace hby:=Below.after hby hb_
       replace hvt:VtO x2 (fun b=>w0.heap.size≤b∧pv.ownBlock≠some b) ⟨xn,xda,xdl,xdc,xpa,xpl,xpc⟩ X:=hvt.wid (fun b hq=>by
        rcases hq with q|q
        ·exact⟨q.1,fun e=>by have:=(hpo b e).1;omega⟩
        ·exact⟨by omega,fun e=>by have:=(hpo b e).2;omega⟩)
       clear hb_;refine hK _ _ HS ?_;simp only[Act.put,List.getElem_toArray,List.getElem_cons_succ,List.getElem_cons_zero,List.setIfInBounds_toArray,List.set_cons_succ,List.set_cons_zero];clear hK
       refine wpAnyH_one (k:=8) (fuel:=2) (by kernel_rfl) rfl (by kernel_rfl) (fun K_ hK=>?_)
       refine wp_world_op (.slice (some ⟨x2.heap.size,0,none⟩) 1 1) (x2.alloc (.cells #[.int .u64 (xn:Int),.slice xda xdl xdc,.slice xpa xpl xpc] 27)) (op_bv1 _ rfl _ _ _ rfl) ?_;have NV:=new_cells4 x2 #[.int .u64 (xn:Int),.slice xda xdl xdc,.slice xpa xpl xpc] 27;have hb_:Below x2.heap.size x2 (x2.alloc (.cells #[.int .u64 (xn:Int),.slice xda xdl xdc,.slice xpa xpl xpc] 27)):=(Below.refl _ _).alloc (Nat.le_refl _) _;replace hPw:=hPw.keep hb_;have szb_x3:=hb_.size
       have HS':(fun W:World=>W.heap[gS]? =some (.cells #[.int .i64 no,.int .i64 wt,.func (.func k1) #[] a1,.func (.func k2) #[] a2,.func (.func k3) #[] a3] 114 (0,0))∧W.rangeAt fb (k*4) [.int .i64 fno,.int .i64 fty,.int .u64 (fnum:Int),.slice fda fdl fdc]) _:=⟨keep hb_ HS.1,rangeS_keep2 HS.2 hb_ (by omega)⟩
       replace HS:=HS';clear HS';replace hby:=Below.after hby hb_;replace hvt:=hvt.blw hb_;clear hb_;refine hK _ _ HS ?_;simp only[Act.put,List.getElem_toArray,List.getElem_cons_succ,List.getElem_cons_zero,List.setIfInBounds_toArray,List.set_cons_succ,List.set_cons_zero];clear hK
       generalize x2.alloc (.cells #[.int .u64 (xn:Int),.slice xda xdl xdc,.slice xpa xpl xpc] 27)=x3 at *
       generalize x2.heap.size=gV at *
       refine wpAnyH_one (k:=9) (fuel:=1) (by kernel_rfl) rfl (by kernel_rfl) (fun K_ hK=>?_)
       obtain⟨iV,hiV,hiz,his,hib⟩:=infoVI;have hOk:=hPw.1;rw[hlk.out] at hOk
       refine wp_append_nx _ _ 25 rfl y.heap.size 27 iV (.agg #[.int .u64 0,.slice none 0 0,.slice none 0 0]) 3 56 Tryz.underlying25 hiV hiz his hib rfl (by decide) pv k (vrs xs) rfl hOk ⟨gV,0,none⟩ 1 1 [.int .u64 (xn:Int),.slice xda xdl xdc,.slice xpa xpl xpc] rfl rfl NV (fun x hx=>?_) (by unfold maxLen;omega) (by omega) hby.size (fun pv' x4 hO4 hgr hnx=>?_)
       ·simp at hx
        rcases hx with rfl|rfl|rfl<;>rfl
       have HS4:(fun W:World=>W.heap[gS]? =some (.cells #[.int .i64 no,.int .i64 wt,.func (.func k1) #[] a1,.func (.func k2) #[] a2,.func (.func k3) #[] a3] 114 (0,0))∧W.rangeAt fb (k*4) [.int .i64 fno,.int .i64 fty,.int .u64 (fnum:Int),.slice fda fdl fdc]) x4:=⟨(hgr.block gS (lt_of_row HS.1) (fun e=>by have:=(hpo gS e.symm).2;omega)).trans HS.1,fun j v hv=>(World.cell?_of_block (hgr.block fb (by omega) (fun e=>by have:=(hpo fb e.symm).1;omega))).trans (HS.2 j v hv)⟩
       have hP4:=hPw.snoc hvt (by rw[hlk.out];exact hO4) hgr hnx
       have szy:=hby.size
       replace hby:=hby.grown hgr szy (fun z e=>(hpo z e).1)
       refine hK _ _ HS4 ?_;simp only[Act.put,List.getElem_toArray,List.getElem_cons_succ,List.getElem_cons_zero,List.setIfInBounds_toArray,List.set_cons_succ,List.set_cons_zero];clear hK HS hPw hvt hOk hO4 hgr hnx
       refine wpAnyH_take (i:=10) (v:=?v99) rfl (by kernel_rfl) (by kernel_rfl) (by kernel_rfl) (fun _ _ _ h=>h) (Or.inl ⟨by rfl,?y99⟩) HS4 ?r99
       case y99=>
        intro w_ hS_;go_simp
        try with_reducible rfl
       simp only[Act.put,List.getElem_toArray,List.getElem_cons_succ,List.getElem_cons_zero,List.setIfInBounds_toArray,List.set_cons_succ,List.set_cons_zero]
       refine wpAnyH_done (by kernel_rfl) ?_ _
       have hF4:=HS4.2;clear HS4 NV;replace hP4:=hide hP4;replace hby:=hide hby
       go_wp2_with (first|(refine wpList_load_mid rfl 118 _ rfl fb (k*4) rfl _ _ hF4 Tryz.underlying118 rfl infoFi ?_)|fail)
       refine(cE.out x4).mono ?_;rintro e_ x5 ⟨_,rfl,rfl,hb_⟩;replace hP4:=hide (hP4.out.keep hb_);replace hby:=hide (Below.after hby.out hb_);clear hb_ cE hF4
       go_wp2_with (fail)
       refine⟨⟨k+1,_,by omega,by omega,by go_num,by rw[hat1.out],eR.out,by rw[hvk.out];exact hP4.out,hby.out⟩,?_⟩
       simp[intOf];omega
      ·intro x hF g x2 h1_ h2_ hb_
       rw[hF] at eR
       have szx:=hby.size;have szy:=hw0.out.size;replace hby:=Below.after hby hb_
       go_wp2_with (fail)
       rw[eR.out]
       exact⟨rfl,⟨g,rfl,by omega,h2_⟩,hw0.out.trans (hby.mono (by omega))⟩
    ·obtain rfl:k=ts.length:=by omega
     generalize u10=pv at *
     have hdk:decide ((ts.length:Int)<(ts.length:Int))=false:=by simp
     have szy:=hby.size;clear h hsl hkn hfok hnn
     by_cases hlf:ts.length<fs.length
     ·rw[dcT_long utf flE rfl hlf] at eR
      have hdl:decide ((ts.length:Int)<(fs.length:Int))=true:=by simp;omega
      replace eR:=hide eR;replace hby:=hide hby;clear hPw hlk
      generalize from_+((ebs (fs.take ts.length)).length:Int)=at_ at *
      go_wp2_with (fail)
      refine(a_giveUp 0 at_ 81 _).mono ?_;rintro e_ x2 ⟨⟨g,rfl,hgl,hgr⟩,hb2⟩;have szx:=hby.out.size;have szy:=hw0.out.size;have hz:=Below.after hby.out hb2
      go_wp2
      rw[eR.out]
      exact⟨rfl,⟨g,rfl,by omega,hgr⟩,hw0.out.trans (hz.mono (by omega))⟩
     ·have hle:fs.length=ts.length:=by omega
      rw[dcT_end utf flE rfl hle] at eR
      have hdl:decide ((ts.length:Int)<(fs.length:Int))=false:=by simp;omega
      rw[List.take_length,show fs.take ts.length=fs by rw[←hle,List.take_length]] at hPw hlk
      obtain⟨pa,pc,epv,hmsg⟩:=hPw.msg szy0.out (by rw[hlk.out];omega)
      rw[hlk.out] at epv hmsg;subst epv
      have rZ3:=(hby.block w.heap.size (by omega)).trans rZ1.out
      have hone:(#[Value.int .u64 0,.slice none 0 0,.slice pa ts.length pc]:Array Value).all (·.oneCell')=true:=by simp[Value.oneCell']
      have RF:=hide (setRow_heap wr w.heap.size _ #[.int .u64 0,.slice none 0 0,.slice pa ts.length pc] _ _ rZ3)
      have hwF:=hide (below_setRow (g:=w.heap.size) (hw0.out.trans (hby.mono (by omega))) (Nat.le_refl _) #[.int .u64 0,.slice none 0 0,.slice pa ts.length pc])
      have hvF:Hid (VtO (wr.setRow w.heap.size #[.int .u64 0,.slice none 0 0,.slice pa ts.length pc]) (fun b=>w.heap.size≤b) ⟨0,none,0,0,pa,ts.length,pc⟩ (.mk 0 [] (vlT ts fs))):=hide (hmsg.other _ _ (fun b hb_=>⟨by omega,by omega⟩))
      replace eR:=hide eR;clear hPw hby hw0 hwy rZ1 hmsg hlk;replace hle:=hide hle
      go_wp2_with (first|(refine wpList_store_row rfl 27 _ _ rfl w.heap.size #[.int .u64 0,.slice none 0 0,.slice pa ts.length pc] rfl rfl 27 _ rZ3 infoV rfl hone ?_)|fail)
      refine bodyPost_ret (v:=.agg #[.int .u64 0,.slice none 0 0,.slice pa ts.length pc]) (results_cell_row Tryz.results38 _ _ w.heap.size _ _ _ _ rfl RF.out Tryz.underlying27 rfl infoV) rfl ⟨?_,hwF.out⟩;rw[eR.out]
      exact⟨_,rfl,⟨0,none,0,0,pa,ts.length,pc⟩,rfl,by rw[hfs.out];exact hvF.out⟩
  ·have eR:R=some ⟨0,from_+dpl (dwh d),der (dwh d)⟩:=by rw[←hR,deT,decN,if_pos hde]
   have hd1:(der (dwh d)==0)=false:=by simpa using hde
   replace eR:=hide eR;replace hde:=hide hde;have hpl:=dpl_bd d;clear hR h hsl hnn hFt
   generalize der (dwh d)=E at *
   generalize dpl (dwh d)=pl at *
   have q1:IntKind.wrap .i64 (from_+pl)=from_+pl:=by rw[IntKind.wrap_i64];omega
   go_wp2_with (fail)
   refine(a_giveUp 0 (from_+pl) E _).mono ?_;rintro e_ x2 ⟨⟨g,rfl,hgl,hgr⟩,hb2⟩;have szx:=(Below.refl y.heap.size y).size;have szy:=hw0.out.size;have hz:=Below.after (Below.refl y.heap.size y) hb2
   go_wp2
   rw[eR.out]
   exact⟨rfl,⟨g,rfl,by omega,hgr⟩,hw0.out.trans (hz.mono (by omega))⟩
end Go.Proofs.YtmmlkfkpblokiaaGreatDoor
