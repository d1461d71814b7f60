import Derived.Test.YtmmlkfkpblokiaaGreatDoorQzKyw
import Derived.Test.YtmmlkfkpblokiaaGreatDoorQzXdv
set_option maxRecDepth 100000
set_option maxHeartbeats 16000000
namespace Go.Proofs.YtmmlkfkpblokiaaGreatDoor
open Go Go.RowKit Go.Sort
attribute [local go_sem] setCell_drewN alloc_drewN
def PaS (W:World) (S:Nat→Prop) (base:Nat) (v:Value) (xs:List VR) (ps:List VT):Prop:=
 W.ownsRow base 27 3 v ps.length (vrs xs)∧xs.length=ps.length∧∀i,i<ps.length→VtO W (fun b=>S b∧v.ownBlock≠some b) (gx xs i) (gvt ps i)
theorem pas_nil (W:World) (S:Nat→Prop) (base:Nat):PaS W S base nS [] []:=⟨⟨rfl,.inl ⟨rfl,rfl⟩⟩,rfl,fun i hi=>by simp at hi⟩
theorem PaS.keep {W V:World} {S:Nat→Prop} {base:Nat} {v:Value} {xs:List VR} {ps:List VT} (h:PaS W S base v xs ps) (hb:Below W.heap.size W V):PaS V S base v xs ps:=
 ⟨own_keep_row h.1 hb,h.2.1,fun i hi=>(h.2.2 i hi).blw hb⟩
theorem PaS.snoc {W W':World} {S:Nat→Prop} {base:Nat} {v v':Value} {xs:List VR} {ps:List VT} {x:VR} {X:VT} (h:PaS W S base v xs ps) (hx:VtO W (fun b=>S b∧v.ownBlock≠some b) x X)
 (ho:W'.ownsRow base 27 3 v' (ps.length+1) (vrs xs++(vrv x).toList)) (hg:W.grownBy W' v.ownBlock) (hk:Nx W v v'):PaS W' S base v' (xs++[x]) (ps++[X]):=by
 have hst:Sty W W' (fun b=>S b∧v.ownBlock≠some b) (fun b=>S b∧v'.ownBlock≠some b):=⟨hg.size,fun b hb hS=>⟨hg.block b hb (fun e=>hS.2 e.symm),hS.1,fun e=>by
  rcases hk with q|⟨k,q,q2⟩
  ·exact hS.2 (q.symm.trans e)
  ·rw[q] at e
   injection e with e
   omega⟩⟩
 have h21:=h.2.1
 refine⟨by rw[List.length_append,List.length_singleton,vrs_snoc];exact ho,by rw[List.length_append,List.length_append,h21];rfl,fun i hi=>?_⟩
 rw[List.length_append,List.length_singleton] at hi
 rcases Nat.lt_or_ge i ps.length with q|q
 ·rw[gx_lo (by omega),gvt_lo q]
  exact(h.2.2 i q).keep hst
 ·obtain rfl:i=ps.length:=by omega
  rw[gvt_hi,←h21,gx_hi]
  exact hx.keep hst
theorem PaS.oth {W:World} {S:Nat→Prop} {base:Nat} {v:Value} {xs:List VR} {ps:List VT} (h:PaS W S base v xs ps) (g:Nat) (cs:Array Value) (h1:¬S g) (h2:g<base):PaS (W.setRow g cs) S base v xs ps:=
 ⟨own_but h.1 (fun q hq=>setRow_other W g q cs (by have:=(own_high_row h.1 q hq).1;omega)),h.2.1,fun i hi=>(h.2.2 i hi).other g cs (fun b hb_=>⟨fun e=>h1 (e▸hb_.1),hb_⟩)⟩
theorem PaS.paw {W:World} {S:Nat→Prop} {lo base:Nat} {v:Value} {xs:List VR} {ps:List VT} (h:PaS W S base v xs ps) (hS:∀b,S b→lo≤b):PaW W lo base v xs ps:=
 ⟨h.1,h.2.1,fun i hi=>(h.2.2 i hi).wid (fun b hb_=>⟨hS b hb_.1,hb_.2⟩)⟩
theorem r_decodeN {sv:Value} {ts:List Slt} (d:List B) (bv:Value) (from_:Int) (hf0:0≤from_) (hf1:from_+(d.length:Int)≤1152921504606846976) (w:World) (h:Slo w sv ts) (hB:BysB w bv d) (hcap:∀a l c,bv=.slice a l c→l≤c)
 (hV:∀k,k<ts.length→∀(u:Value) (P:Nat→Prop) (f:Fd) (da:Option Addr) (dc:Nat) (at_:Int) (V:World),Slo w u (gs ts k).sub→Below w.heap.size w V→Fdk V P f da dc at_→f.ty=wtA (gs ts k).kind→fits f→
  Calls Tryz.prog 63 #[.agg (slr (gs ts k) u),.agg #[.int .i64 f.no,.int .i64 f.ty,.int .u64 (f.num:Int),.slice da f.dat.length dc],.int .i64 at_,.int .i64 (at_+((fby f).length:Int)-(f.dat.length:Int))] V (VaQ V (fun b=>P b∨V.heap.size≤b) (rdT utD flD (gs ts k) f at_) (vlS (gs ts k) f))):
 Calls Tryz.prog 39 #[sv,bv,.int .i64 from_] w (VaQ w (fun b=>w.heap.size≤b) (deT utD flD ts d from_) (mgT ts d)):=by
 cases h with
 |mk ao cap ts us_ hl hc hnn h hs=>
  have R60:=hp2_0 w (.cells #[.int .u64 0,nS,nS] 27) (.cells #[.int .i64 0,.int .i64 0,.int .i64 0] 41);have R70:=hp2_1 w (.cells #[.int .u64 0,nS,nS] 27) (.cells #[.int .i64 0,.int .i64 0,.int .i64 0] 41)
  have hb0:Below w.heap.size w ((w.alloc (.cells #[.int .u64 0,nS,nS] 27)).alloc (.cells #[.int .i64 0,.int .i64 0,.int .i64 0] 41)):=((Below.refl _ _).alloc (Nat.le_refl _) _).alloc (by simp) _
  have cDe:=hide (r_decode d ((w.alloc (.cells #[.int .u64 0,nS,nS] 27)).alloc (.cells #[.int .i64 0,.int .i64 0,.int .i64 0] 41)) bv (hB.keep hb0) hcap);unfold mgT;obtain⟨R,hR0⟩:∃R,deT utD flD ts d from_=R:=⟨_,rfl⟩;have hR:=hide hR0;replace hb0:=hide hb0;replace R60:=hide R60;replace R70:=hide R70;clear hB hcap
  go_enter Tryz.func39,Tryz.ntmps39
  go_upto_region 1 with(fail)
  generalize ((w.alloc (.cells #[.int .u64 0,nS,nS] 27)).alloc (.cells #[.int .i64 0,.int .i64 0,.int .i64 0] 41))=w0 at *
  go_wp2_with (fail)
  refine cDe.out.mono ?_;rintro e_ y ⟨fv,us,rfl,hFt,hb1⟩;have R6y:=hide (keep hb1 R60.out);have R7y:=hide (keep hb1 R70.out);have l7y:=lt_of_row R7y.out;have l70:=lt_of_row R70.out;have lzy:=hb1.size;have hw0:=hide (Below.after hb0.out hb1);clear cDe R60 R70 hb1 hb0
  by_cases hde:der (dwh d)=0
  ·have hfok:=dfs_oks d
   have hf64:=dfs_len d hde
   have hee:=eer_ok.1 (dec_enc hde).1
   have hkn:∀i,i<(dfs (dwh d)).length→_:=fun i hi=>ech_all _ 0 (by decide) hee.2.1 _ (gf_mem hi)
   have hebs:=hee.2.2
   have hebd:(ebs (dfs (dwh d))).length=d.length:=by
    have q:=(dec_enc hde).2;rw[eout,if_pos (dec_enc hde).1] at q;rw[q]
   have eR:R=dcT utD flD (ts.drop 0) ((dfs (dwh d)).drop 0) (from_+((ebs ((dfs (dwh d)).take 0)).length:Int)):=by rw[←hR0,deT,decN,if_neg (by omega)];simp[ebs]
   rw[hde];clear hR0 hee hde
   generalize hfs:dfs (dwh d)=fs at *
   replace hfs:=hide hfs
   generalize dpl (dwh d)=pl at *
   obtain⟨fo,fcap,rfl⟩:∃fo fcap,fv=.slice fo fs.length fcap:=by
    obtain⟨_,⟨rfl,h0⟩|⟨g,cap,cur,rfl,_⟩⟩:=hFt.1
    ·exact⟨none,0,by rw[h0]⟩
    ·exact⟨_,_,rfl⟩
   replace hFt:=hide hFt;replace eR:=hide eR;have RVb0:=hide (hp1_0 y (.cells #[.int .u64 0,nS,nS] 27));have hby0:Hid (Below y.heap.size y (y.alloc (.cells #[.int .u64 0,nS,nS] 27))):=hide ((Below.refl _ _).alloc (Nat.le_refl _) _)
   go_wp2_with (fail)
   generalize y.alloc (.cells #[.int .u64 0,nS,nS] 27)=yb at *
   go_loopw [13,12,14,15,16] (fun i at_ _ _ _ wr=>∃(k:Nat) (pv:Value) (xs:List VR),k≤ts.length∧k≤fs.length∧i=.int .i64 k∧at_=.int .i64 (from_+((ebs (fs.take k)).length:Int))∧R=dcT utD flD (ts.drop k) (fs.drop k) (from_+((ebs (fs.take k)).length:Int))∧wr.heap[y.heap.size]? =some (.cells #[.int .u64 0,nS,pv] 27 (0,0))∧PaS wr (fun b=>w0.heap.size≤b∧b≠y.heap.size) (y.heap.size+1) pv xs (vlT (ts.take k) (fs.take k))∧Below y.heap.size y wr) (fun i _ _ _ _ _=>ts.length-(intOf i).toNat)
   case atStart=>exact⟨0,_,[],by omega,by omega,rfl,by simp[ebs],eR.out,RVb0.out,by rw[List.take_zero,List.take_zero,vlT_nil];exact pas_nil _ _ _,hby0.out⟩
   case round=>
    clear eR RVb0 hby0;obtain⟨k,pv,xs,hk,hkl,rfl,rfl,eR,RVb,hP,hby⟩:=hrel
    have hlk:=hide (show(vlT (ts.take k) (fs.take k)).length=k by rw[vlT_len _ _ (by rw[List.length_take,List.length_take];omega),List.length_take];omega)
    obtain⟨pva,pvc,rfl⟩:∃a c,pv=.slice a k c:=by
     have:=hP.1;rw[hlk.out] at this;exact own_slice this
    by_cases hlt:k<ts.length
    ·have hdk:decide ((k:Int)<(ts.length:Int))=true:=by simp;omega
     obtain⟨b,off,rfl,hbl,hra,hsok⟩:=h k hlt
     have hsl:=hs k hlt;obtain⟨so,sc,hsu⟩:=hsl.form;rw[hsu] at hra hsl;generalize hsn:(gs ts k).sub.length=sn at hra hsl hsu;clear hsn;have szwr:=hby.size;have lw6:=lt_of_row R7y.out;have hsz0:=hw0.out.size
     have R6r:=hide ((hby.block (w.heap.size) (by omega)).trans R6y.out)
     have R7r:=hide ((hby.block (w.heap.size+1) (by omega)).trans R7y.out)
     have hWr:=hide (hw0.out.trans (hby.mono (by omega)))
     have hbr:=Below.refl wr.heap.size wr
     by_cases hkf:k=fs.length
     ·rw[dcT_short utD flD hlt hkf.symm] at eR
      subst hkf
      rw[List.take_length] at eR⊢
      replace eR:=hide eR
      generalize from_+((ebs fs).length:Int)=at_ at *
      have R6:=R6r.out;have R7:=R7r.out;have hW:=hWr.out;clear hP RVb hby hra hsok h hs hV
      have oneA:(#[Value.int .u64 0,nS,nS]:Array Value).all (·.oneCell')=true:=by simp[Value.oneCell']
      have oneB:(#[Value.int .i64 0,.int .i64 at_,.int .i64 81]:Array Value).all (·.oneCell')=true:=by simp[Value.oneCell']
      have cA:=hide (r_at (at_) (81) wr);replace hW:=hide hW;replace R6:=hide R6;replace R7:=hide R7
      go_wp2_with (first|(refine wpList_build_want rfl 27 _ rfl [] rfl #[.int .u64 0,nS,nS] builtZvR ?_)|fail)
      refine cA.out.mono ?_;rintro e_ x2 ⟨rfl,hb2⟩;replace R6:=keep hb2 R6.out;replace R7:=keep hb2 R7.out;replace hW:=Below.after hW.out hb2;clear hb2 cA
      go_wp2_with (first|(refine wpList_store_row rfl 27 _ _ rfl (w.heap.size) #[.int .u64 0,nS,nS] rfl rfl 27 _ R6 infoV rfl oneA ?_)|(refine wpList_store_row rfl 41 _ _ rfl (w.heap.size+1) #[.int .i64 0,.int .i64 at_,.int .i64 81] rfl rfl 41 _ ((setRow_other x2 (w.heap.size) (w.heap.size+1) #[.int .u64 0,nS,nS] (by omega)).trans R7) infoFt rfl oneB ?_)|fail)
      replace R7:=(setRow_other x2 (w.heap.size) (w.heap.size+1) #[.int .u64 0,nS,nS] (by omega)).trans R7
      replace R6:=setRow_heap x2 (w.heap.size) _ (#[.int .u64 0,nS,nS]) _ _ R6
      replace hW:=below_setRow hW (show w.heap.size≤w.heap.size by omega) #[.int .u64 0,nS,nS]
      generalize x2.setRow (w.heap.size) #[.int .u64 0,nS,nS]=x3 at *
      replace R6:=(setRow_other x3 (w.heap.size+1) (w.heap.size) #[.int .i64 0,.int .i64 at_,.int .i64 81] (by omega)).trans R6
      replace R7:=setRow_heap x3 (w.heap.size+1) _ (#[.int .i64 0,.int .i64 at_,.int .i64 81]) _ _ R7
      replace hW:=below_setRow hW (show w.heap.size≤w.heap.size+1 by omega) #[.int .i64 0,.int .i64 at_,.int .i64 81]
      exact bodyPost_ret (v:=.tuple #[.agg #[.int .u64 0,nS,nS],.agg #[.int .i64 0,.int .i64 at_,.int .i64 81]]) (results_cell_cell Tryz.results39 _ _ (w.heap.size) (w.heap.size+1) _ _ _ _ _ _ _ _ rfl R6 Tryz.underlying27 rfl infoV rfl R7 Tryz.underlying41 rfl infoFt) rfl (by unfold VaQ;rw[hR.out,eR.out];exact⟨rfl,hW⟩)
     ·have hkf2:k<fs.length:=by omega
      have hge:decide ((k:Int)≥(fs.length:Int))=false:=by simp;omega
      have hge2:¬((fs.length:Int)≤(k:Int)):=by omega
      rw[dcT_step utD flD hlt hkf2] at eR;obtain⟨fb,fcap2,efv,hfb1,hfb2,hfrow⟩:=(hFt.out).at hkf2
      cases efv
      obtain⟨hk0,hk1,hk2,hfit⟩:=hkn k hkf2;have hfo:=hfok k hkf2
      have hsum:(ebs fs).length=(ebs (fs.take k)).length+(ebs (fs.drop k)).length:=by
       have e:=ebs_split fs k;rw[←List.length_append,←e]
      have hsum1:(ebs fs).length=(ebs (fs.take (k+1))).length+(ebs (fs.drop (k+1))).length:=by
       have e:=ebs_split fs (k+1);rw[←List.length_append,←e]
      have htk:=ebs_take fs k hkf2
      have hEN:from_+((ebs (fs.take k)).length:Int)+((fby (gf fs k)).length:Int)=from_+((ebs (fs.take (k+1))).length:Int):=by rw[htk];omega
      have hfbl:(fby (gf fs k)).length≤4194304:=by omega
      have hdl4:(gf fs k).dat.length≤4194304:=by
       by_cases ht:(gf fs k).ty=2
       ·have:=fby_dat ht;omega
       ·have hfit2:=hfit
        unfold fits at hfit2
        rw[if_neg ht] at hfit2;rw[hfit2.1]
        simp
      have hOw:=hFt.out.2.2.1 k (by rw[hFt.out.2.1];exact hkf2)
      obtain⟨fda,fdc,hus,hBd,hblk⟩:=own_told hOw hdl4;rw[hus] at hOw
      have hat0:0≤from_+((ebs (fs.take k)).length:Int)∧from_+((ebs (fs.take k)).length:Int)≤1152921504606846976:=by omega
      have hat2:0≤from_+((ebs (fs.take (k+1))).length:Int)∧from_+((ebs (fs.take (k+1))).length:Int)≤1152921504606846976:=by omega
      have hFk:Fdk y (fun b=>w0.heap.size≤b∧b<y.heap.size) (gf fs k) fda fdc (from_+((ebs (fs.take k)).length:Int)):=⟨hBd,own_capT hOw,fun a e=>⟨⟨(hblk a e).2,(hblk a e).1⟩,(hblk a e).1⟩,hfo,hk0,hk1,hk2,hfbl,hat0.1,by omega,own_down_row hOw (Nat.zero_le _),fun k_ q=>own_high_row hOw k_ q⟩
      have hvk:=hide (vlT_take ts fs k hlt hkf2)
      have cW_:=hide (fun V=>r_wide (gf fs k) fda fdc hfo hk0 hk1 hk2 V)
      have cT:=hide (show Gives 54 #[.int .i64 (gs ts k).kind] (.int .i64 (wtA (gs ts k).kind)) from r_typeOf _)
      have hsw:=rangeS_keep2 (rangeS_keep2 hra hw0.out hbl) hby (by omega)
      have hfw_:=rangeS_keep2 hfrow hby hfb2
      have cVl0:=fun V (hV2:Below wr.heap.size wr V) (hty:(gf fs k).ty=wtA (gs ts k).kind)=>hV k hlt (.slice so sn sc) (fun b=>w0.heap.size≤b∧b<y.heap.size) (gf fs k) fda fdc (from_+((ebs (fs.take k)).length:Int)) V hsl (hw0.out.trans ((Below.after hby hV2).mono (by omega))) (hFk.keep (Below.after hby hV2)) hty hfit
      obtain⟨Fk,hFk0⟩:∃Fk,rdT utD flD (gs ts k) (gf fs k) (from_+((ebs (fs.take k)).length:Int))=Fk:=⟨_,rfl⟩
      have hfwk:∀x,Fk=some x→x.why≠0:=fun x e=>rd_why (hFk0.trans e)
      rw[hFk0] at cVl0
      have eD:dsT utD flD (gs ts k) (gf fs k) (from_+((ebs (fs.take k)).length:Int))=if(gf fs k).no≠(gs ts k).no then some ⟨0,from_+((ebs (fs.take k)).length:Int),81⟩ else if(gf fs k).ty≠wtA (gs ts k).kind then some ⟨0,from_+((ebs (fs.take k)).length:Int),82⟩ else Fk:=by rw[←hFk0];rfl
      rw[eD] at eR;clear eD hFk0;rw[hEN] at eR;rw[hus] at hfw_;unfold srow at hsw;unfold frow at hfw_;unfold slr at cVl0
      have eDl:from_+((ebs (fs.take k)).length:Int)+((fby (gf fs k)).length:Int)-((gf fs k).dat.length:Int)=from_+((ebs (fs.take (k+1))).length:Int)-((gf fs k).dat.length:Int):=by rw[hEN]
      rw[eDl] at cVl0;have hfl3:(gf fs k).dat.length≤4194304:=hdl4
      have hdlE:Hid (((gf fs k).dat.length:Int)≤from_+((ebs (fs.take (k+1))).length:Int)+4194304):=hide (by omega)
      clear eDl hra hfrow hsok hsl hsu hus h hs hV hk0 hk1 hk2 hfo hfit hfok hkn hOw hBd hblk hFk hsum hsum1 htk hfbl hdl4
      generalize hat1g:from_+((ebs (fs.take (k+1))).length:Int)=EN at *
      have hat1:Hid (from_+((ebs (fs.take (k+1))).length:Int)=EN):=hide hat1g;clear hat1g
      generalize from_+((ebs (fs.take k)).length:Int)=at_ at *
      generalize ((fby (gf fs k)).length:Int)=FLN at *
      replace hEN:=hide hEN
      generalize vlS (gs ts k) (gf fs k)=X at *
      generalize (gf fs k).no=fno at *
      generalize (gf fs k).ty=fty at *
      generalize (gf fs k).num=fnum at *
      generalize (gf fs k).dat.length=fdl at *
      generalize wtA (gs ts k).kind=wk at *
      generalize (gs ts k).no=no at *
      generalize (gs ts k).kind=kd at *
      generalize ((gs ts k).least:Int)=l at *
      generalize ((gs ts k).most:Int)=mo at *
      have HS:(fun W:World=>W.rangeAt b (off+k*5) [.int .i64 no,.int .i64 kd,.int .u64 l,.int .u64 mo,.slice so sn sc]∧W.rangeAt fb (k*4) [.int .i64 fno,.int .i64 fty,.int .u64 (fnum:Int),.slice fda fdl fdc]) wr:=⟨hsw,hfw_⟩
      have hbs:b<wr.heap.size:=by omega
      have hfbs:fb<wr.heap.size:=by omega
      have hpor:=own_high_row hP.1;have RVbr:=hide RVb;have lVb:=lt_of_row RVb;have hPr:=hide hP;clear hsw hfw_ RVb hP;replace hby:=hide hby
      go_upto_region 11 with(fail)
      have hi9:0≤(k:Int)∧(k:Int)<(fs.length:Int):=by omega
      have hi8:0≤(k:Int)∧(k:Int)<(ts.length:Int):=by omega
      have hbd:Below wr.heap.size wr wr.drew:=below_drN (Below.refl _ _) 1
      replace HS:=ss_keep HS hbd (by have:=hbr.size;omega) (by have:=hbr.size;omega)
      replace hbr:=Below.after hbr hbd;clear hbd
      refine wp_region_held (S:=fun W:World=>W.rangeAt b (off+k*5) [.int .i64 no,.int .i64 kd,.int .u64 l,.int .u64 mo,.slice so sn sc]∧W.rangeAt fb (k*4) [.int .i64 fno,.int .i64 fty,.int .u64 (fnum:Int),.slice fda fdl fdc]) (by kernel_rfl) ?_
      change wpAnyH _ _ _ _ _ _ _ _ (World.drew _)
      generalize wr.drew=a1 at *
      refine wTy 0 ?v42 rfl ?y42 HS ?r42
      case y42=>
       intro w_ hS_;go_simp
       try with_reducible rfl
      simp only[Act.put,ZPa,ZPc,ZPd,ZPe,ZPf];refine wTy 1 ?v43 rfl ?y43 HS ?r43
      case y43=>
       intro w_ hS_;go_simp
       try with_reducible rfl
      simp only[Act.put,ZPa,ZPb,ZPc,ZPd,ZPe,ZPf];refine wTy 2 ?v44 rfl ?y44 HS ?r44
      case y44=>
       intro w_ hS_;go_simp
       try with_reducible rfl
      simp only[Act.put,ZPa,ZPb,ZPc,ZPd,ZPe,ZPf];refine wTy 3 ?v45 rfl ?y45 HS ?r45
      case y45=>
       intro w_ hS_;go_simp
       try with_reducible rfl
      simp only[Act.put,ZPa,ZPb,ZPc,ZPd,ZPe,ZPf];refine wTy 4 (.int .i64 fno) rfl ?y46 HS ?r46
      case y46=>
       intro w_ hS_;have c_:w_.cell? ⟨fb,k*4,none⟩=some (.int .i64 fno):=hS_.2 0 _ rfl;go_simp
       try with_reducible rfl
      simp only[Act.put,ZPa,ZPb,ZPc,ZPd,ZPe,ZPf];refine wTy 5 ?v47 rfl ?y47 HS ?r47
      case y47=>
       intro w_ hS_;go_simp
       try with_reducible rfl
      simp only[Act.put,ZPa,ZPb,ZPc,ZPd,ZPe,ZPf];refine wTy 6 ?v48 rfl ?y48 HS ?r48
      case y48=>
       intro w_ hS_;go_simp
       try with_reducible rfl
      simp only[Act.put,ZPa,ZPb,ZPc,ZPd,ZPe,ZPf];refine wTy 7 ?v49 rfl ?y49 HS ?r49
      case y49=>
       intro w_ hS_;go_simp
       try with_reducible rfl
      simp only[Act.put,ZPa,ZPb,ZPc,ZPd,ZPe,ZPf];refine wTy 8 ?v50 rfl ?y50 HS ?r50
      case y50=>
       intro w_ hS_;go_simp
       try with_reducible rfl
      simp only[Act.put,ZPa,ZPb,ZPc,ZPd,ZPe,ZPf];refine wTy 9 (.int .i64 no) rfl ?y51 HS ?r51
      case y51=>
       intro w_ hS_;have c_:w_.cell? ⟨b,off+k*5,none⟩=some (.int .i64 no):=hS_.1 0 _ rfl;go_simp
       try with_reducible rfl
      simp only[Act.put,ZPa,ZPb,ZPc,ZPd,ZPe,ZPf];refine wTy 10 (.bool (fno !=no)) rfl ?y52 HS ?r52
      case y52=>
       intro w_ hS_;go_simp
       try with_reducible rfl
      simp only[Act.put,ZPa,ZPb,ZPc,ZPd,ZPe,ZPf]
      refine wpAnyH_done (by kernel_rfl) ?_ _
      by_cases hno:fno=no
      ·rw[if_neg (fun q=>q hno)] at eR
       have bn1:(fno !=no)=false:=by simpa using hno
       have bn2:(fno==no)=true:=by simpa using hno
       replace hno:=hide hno
       go_upto_region 13 with(fail)
       have hbd:Below a1.heap.size a1 a1.drew:=below_drN (Below.refl _ _) 1
       replace HS:=ss_keep HS hbd (by have:=hbr.size;omega) (by have:=hbr.size;omega)
       replace hbr:=Below.after hbr hbd;clear hbd
       refine wp_region_held (S:=fun W:World=>W.rangeAt b (off+k*5) [.int .i64 no,.int .i64 kd,.int .u64 l,.int .u64 mo,.slice so sn sc]∧W.rangeAt fb (k*4) [.int .i64 fno,.int .i64 fty,.int .u64 (fnum:Int),.slice fda fdl fdc]) (by kernel_rfl) ?_
       change wpAnyH _ _ _ _ _ _ _ _ (World.drew _)
       generalize a1.drew=a3 at *
       refine wTy 0 ?vb53 rfl ?yb53 HS ?rb53
       case yb53=>
        intro w_ hS_;go_simp
        try with_reducible rfl
       simp only[Act.put,ZPa,ZPc,ZPd,ZPe,ZPf];refine wTy 1 ?vb54 rfl ?yb54 HS ?rb54
       case yb54=>
        intro w_ hS_;go_simp
        try with_reducible rfl
       simp only[Act.put,ZPa,ZPb,ZPc,ZPd,ZPe,ZPf];refine wTy 2 ?vb55 rfl ?yb55 HS ?rb55
       case yb55=>
        intro w_ hS_;go_simp
        try with_reducible rfl
       simp only[Act.put,ZPa,ZPb,ZPc,ZPd,ZPe,ZPf];refine wTy 3 ?vb56 rfl ?yb56 HS ?rb56
       case yb56=>
        intro w_ hS_;go_simp
        try with_reducible rfl
       simp only[Act.put,ZPa,ZPb,ZPc,ZPd,ZPe,ZPf];refine wTy 4 (.int .i64 fty) rfl ?yb57 HS ?rb57
       case yb57=>
        intro w_ hS_;have c_:w_.cell? ⟨fb,k*4+1,none⟩=some (.int .i64 fty):=hS_.2 1 _ rfl;go_simp
        try with_reducible rfl
       simp only[Act.put,ZPa,ZPb,ZPc,ZPd,ZPe,ZPf];refine wTy 5 ?vb58 rfl ?yb58 HS ?rb58
       case yb58=>
        intro w_ hS_;go_simp
        try with_reducible rfl
       simp only[Act.put,ZPa,ZPb,ZPc,ZPd,ZPe,ZPf];refine wTy 6 ?vb59 rfl ?yb59 HS ?rb59
       case yb59=>
        intro w_ hS_;go_simp
        try with_reducible rfl
       simp only[Act.put,ZPa,ZPb,ZPc,ZPd,ZPe,ZPf];refine wTy 7 ?vb60 rfl ?yb60 HS ?rb60
       case yb60=>
        intro w_ hS_;go_simp
        try with_reducible rfl
       simp only[Act.put,ZPa,ZPb,ZPc,ZPd,ZPe,ZPf];refine wTy 8 ?vb61 rfl ?yb61 HS ?rb61
       case yb61=>
        intro w_ hS_;go_simp
        try with_reducible rfl
       simp only[Act.put,ZPa,ZPb,ZPc,ZPd,ZPe,ZPf];refine wTy 9 (.int .i64 kd) rfl ?yb62 HS ?rb62
       case yb62=>
        intro w_ hS_;have c_:w_.cell? ⟨b,off+k*5+1,none⟩=some (.int .i64 kd):=hS_.1 1 _ rfl;go_simp
        try with_reducible rfl
       simp only[Act.put,ZPa,ZPb,ZPc,ZPd,ZPe,ZPf]
       refine wpAnyH_one (k:=10) (fuel:=1) (by kernel_rfl) rfl (by kernel_rfl) (fun K_ hK=>?_)
       refine wp_call_ex (f:=54) (R:=fun u w'=>u=.int .i64 wk∧Below a3.heap.size a3 w') (by kernel_rfl) ((cT.out a3).mono fun _ _ h=>⟨_,h.1,rfl,h.2⟩) (fun v_ a4 hX_=>?_)
       obtain⟨rfl,hb_⟩:=hX_
       replace HS:=ss_keep HS hb_ (by have:=hbr.size;omega) (by have:=hbr.size;omega)
       replace hbr:=Below.after hbr hb_;clear hb_;refine hK _ _ HS ?_;simp only[Act.put,ZPa,ZPb,ZPc,ZPd,ZPe,ZPf];clear hK;refine wTy 11 (.bool (fty !=wk)) rfl ?yb63 HS ?rb63
       case yb63=>
        intro w_ hS_;go_simp
        try with_reducible rfl
       simp only[Act.put,ZPa,ZPb,ZPc,ZPd,ZPe,ZPf]
       refine wpAnyH_done (by kernel_rfl) ?_ _
       by_cases hty:fty=wk
       ·rw[if_neg (fun q=>q hty)] at eR
        have bt1:(fty !=wk)=false:=by simpa using hty
        have bt2:(fty==wk)=true:=by simpa using hty
        have cVl:=hide (fun V hV2=>cVl0 V hV2 hty)
        have eR2:=hide eR;replace hty:=hide hty;clear cVl0 eR
        have qb:0≤at_+FLN∧at_+FLN≤1152921504606846976:=by rw[hEN.out];exact hat2
        go_wp2_with (first|(refine wpList_load_mid rfl 118 _ rfl fb (k*4) rfl _ _ HS.2 Tryz.underlying118 rfl infoFi ?_)|fail)
        refine(cW_.out a4).mono ?_;rintro e_ a5 ⟨_,rfl,rfl,hb_⟩
        replace HS:=ss_keep HS hb_ (by have:=hbr.size;omega) (by have:=hbr.size;omega)
        replace hbr:=Below.after hbr hb_;clear hb_ cW_
        have q16:IntKind.wrap .i64 (EN-(fdl:Int))=EN-(fdl:Int):=by rw[IntKind.wrap_i64];omega
        have qEN:Hid (at_+FLN=EN):=hEN
        have cV:=hide (fun V (hV:Below wr.heap.size wr V)=>(cVl.out V hV).mono (fun e w' h=>h.u))
        clear cVl
        go_upto_region 16 with(fail)
        rw[qEN.out];have hbd:Below a5.heap.size a5 a5.drew:=below_drN (Below.refl _ _) 1
        replace HS:=ss_keep HS hbd (by have:=hbr.size;omega) (by have:=hbr.size;omega)
        replace hbr:=Below.after hbr hbd;clear hbd
        refine wp_region_held (S:=fun W:World=>W.rangeAt b (off+k*5) [.int .i64 no,.int .i64 kd,.int .u64 l,.int .u64 mo,.slice so sn sc]∧W.rangeAt fb (k*4) [.int .i64 fno,.int .i64 fty,.int .u64 (fnum:Int),.slice fda fdl fdc]) (by kernel_rfl) ?_
        change wpAnyH _ _ _ _ _ _ _ _ (World.drew _)
        generalize a5.drew=a6 at *
        refine wTy 0 ?v8 rfl ?y8 HS ?r8
        case y8=>
         intro w_ hS_;go_simp
         try with_reducible rfl
        simp only[Act.put,ZPa,ZPc,ZPd,ZPe,ZPf];refine wTy 1 ?v9 rfl ?y9 HS ?r9
        case y9=>
         intro w_ hS_;go_simp
         try with_reducible rfl
        simp only[Act.put,ZPa,ZPb,ZPc,ZPd,ZPe,ZPf];refine wTy 2 ?v10 rfl ?y10 HS ?r10
        case y10=>
         intro w_ hS_;go_simp
         try with_reducible rfl
        simp only[Act.put,ZPa,ZPb,ZPc,ZPd,ZPe,ZPf]
        refine wTk (i:=3) (v:=.agg #[.int .i64 no,.int .i64 kd,.int .u64 l,.int .u64 mo,.slice so sn sc]) rfl (yieldsIf_load_mid (by rfl) 88 _ rfl b (off+k*5) rfl [.int .i64 no,.int .i64 kd,.int .u64 l,.int .u64 mo,.slice so sn sc] _ (fun _ h=>h.1) Tryz.underlying88 rfl infoSlt) HS ?_
        simp only[Act.put,ZPa,ZPb,ZPc,ZPd,ZPe,ZPf];refine wTy 4 ?v12 rfl ?y12 HS ?r12
        case y12=>
         intro w_ hS_;go_simp
         try with_reducible rfl
        simp only[Act.put,ZPa,ZPb,ZPc,ZPd,ZPe,ZPf];refine wTy 5 ?v13 rfl ?y13 HS ?r13
        case y13=>
         intro w_ hS_;go_simp
         try with_reducible rfl
        simp only[Act.put,ZPa,ZPb,ZPc,ZPd,ZPe,ZPf];refine wTy 6 ?v14 rfl ?y14 HS ?r14
        case y14=>
         intro w_ hS_;go_simp
         try with_reducible rfl
        simp only[Act.put,ZPa,ZPb,ZPc,ZPd,ZPe,ZPf]
        refine wTk (i:=7) (v:=.agg #[.int .i64 fno,.int .i64 fty,.int .u64 (fnum:Int),.slice fda fdl fdc]) rfl (yieldsIf_load_mid (by rfl) 118 _ rfl fb (k*4) rfl [.int .i64 fno,.int .i64 fty,.int .u64 (fnum:Int),.slice fda fdl fdc] _ (fun _ h=>h.2) Tryz.underlying118 rfl infoFi) HS ?_
        simp only[Act.put,ZPa,ZPb,ZPc,ZPd,ZPe,ZPf];refine wTy 8 ?v16 rfl ?y16 HS ?r16
        case y16=>
         intro w_ hS_;go_simp
         try with_reducible rfl
        simp only[Act.put,ZPa,ZPb,ZPc,ZPd,ZPe,ZPf];refine wTy 9 ?v17 rfl ?y17 HS ?r17
        case y17=>
         intro w_ hS_;go_simp
         try with_reducible rfl
        simp only[Act.put,ZPa,ZPb,ZPc,ZPd,ZPe,ZPf];refine wTy 10 ?v18 rfl ?y18 HS ?r18
        case y18=>
         intro w_ hS_;go_simp
         try with_reducible rfl
        simp only[Act.put,ZPa,ZPb,ZPc,ZPd,ZPe,ZPf];refine wTy 11 ?v19 rfl ?y19 HS ?r19
        case y19=>
         intro w_ hS_;go_simp
         try with_reducible rfl
        simp only[Act.put,ZPa,ZPb,ZPc,ZPd,ZPe,ZPf];refine wTy 12 ?v20 rfl ?y20 HS ?r20
        case y20=>
         intro w_ hS_;go_simp
         try with_reducible rfl
        simp only[Act.put,ZPa,ZPb,ZPc,ZPd,ZPe,ZPf];refine wTy 13 ?v21 rfl ?y21 HS ?r21
        case y21=>
         intro w_ hS_;go_simp
         try with_reducible rfl
        simp only[Act.put,ZPa,ZPb,ZPc,ZPd,ZPe,ZPf];refine wTy 14 (.slice fda fdl fdc) rfl ?y22 HS ?r22
        case y22=>
         intro w_ hS_;have c_:w_.cell? ⟨fb,k*4+3,none⟩=some (.slice fda fdl fdc):=hS_.2 3 _ rfl;go_simp
         try with_reducible rfl
        simp only[Act.put,ZPa,ZPb,ZPc,ZPd,ZPe,ZPf];refine wTy 15 ?v23 rfl ?y23 HS ?r23
        case y23=>
         intro w_ hS_;go_simp
         try with_reducible rfl
        simp only[Act.put,ZPa,ZPb,ZPc,ZPd,ZPe,ZPf]
        refine wpAnyH_take (i:=16) (v:=.int .i64 (EN-(fdl:Int))) rfl (by kernel_rfl) (by kernel_rfl) (by kernel_rfl) (fun _ _ _ h=>h) (Or.inl ⟨by rfl,?y24⟩) HS ?r24
        case y24=>
         intro w_ hS_;go_simp
         try with_reducible rfl
        simp only[Act.put,ZPa,ZPb,ZPc,ZPd,ZPe,ZPf]
        apply ecutQ4 (fun(x:VR) (fl fa fw:Int) (gX gY:Nat) (W:World)=>Below wr.heap.size wr W∧W.heap[gX]? =some (.cells (vrv x) 27 (0,0))∧W.heap[gY]? =some (.cells #[.int .i64 fl,.int .i64 fa,.int .i64 fw] 41 (0,0))∧wr.heap.size≤gX∧wr.heap.size≤gY∧gX≠gY∧VtO W (fun b=>(w0.heap.size≤b∧b≠y.heap.size)∧(Value.slice pva k pvc).ownBlock≠some b) x (valU Fk X)∧flr Fk=#[.int .i64 fl,.int .i64 fa,.int .i64 fw])
        ·intro key_
         apply ecutQ4 (fun(x:VR) (fl fa fw:Int) (gX gY:Nat) (W:World)=>Below wr.heap.size wr W∧(fun W:World=>W.rangeAt b (off+k*5) [.int .i64 no,.int .i64 kd,.int .u64 l,.int .u64 mo,.slice so sn sc]∧W.rangeAt fb (k*4) [.int .i64 fno,.int .i64 fty,.int .u64 (fnum:Int),.slice fda fdl fdc]) W∧W.heap[gX]? =some (.cells #[.int .u64 0,nS,nS] 27 (0,0))∧W.heap[gY]? =some (.cells #[.int .i64 0,.int .i64 0,.int .i64 0] 41 (0,0))∧wr.heap.size≤gX∧wr.heap.size≤gY∧gX≠gY∧VtO W (fun b=>((w0.heap.size≤b∧b≠y.heap.size)∧(Value.slice pva k pvc).ownBlock≠some b)∧b≠gX∧b≠gY) x (valU Fk X)∧flr Fk=#[.int .i64 fl,.int .i64 fa,.int .i64 fw])
         ·intro key0_
          refine wpAnyH_threeY (j:=17) (k:=21) (l:=22) (fuel:=7) (by kernel_rfl) rfl rfl rfl (by kernel_rfl) (by kernel_rfl) (by kernel_rfl) (fun K_ hK_=>?_) (fun K_ hK_=>?_) (fun K_ hK_=>?_)
          ·have hcL:=hbr.size
           refine wp_call_ex (f:=63) (R:=fun u w'=>(∃x fl fa fw,u=.tuple #[.agg (vrv x),.agg #[.int .i64 fl,.int .i64 fa,.int .i64 fw]]∧VtO w' (fun b=>(w0.heap.size≤b∧b<y.heap.size)∨a6.heap.size≤b) x (valU Fk X)∧flr Fk=#[.int .i64 fl,.int .i64 fa,.int .i64 fw])∧Below a6.heap.size a6 w') (by kernel_rfl) (cV.out a6 hbr) (fun v_ q1 hX_=>?_)
           obtain⟨⟨x,fl,fa,fw,rfl,hvt,hfl⟩,hb_⟩:=hX_
           have oneA:(vrv x).all (·.oneCell')=true:=by simp[vrv,vrw,Value.oneCell']
           have oneB:(#[Value.int .i64 fl,.int .i64 fa,.int .i64 fw]:Array Value).all (·.oneCell')=true:=by simp[Value.oneCell']
           have hcw:q1.heap.size≤q1.heap.size:=Nat.le_refl _;replace hvt:=vtm_upto hvt;have hcH:=hb_.size
           replace HS:=ss_keep HS hb_ (by have:=hbr.size;omega) (by have:=hbr.size;omega)
           replace hbr:=Below.after hbr hb_;clear hb_;refine hK_ _ _ HS ?_;simp only[Act.put,ZPa,ZPb,ZPc,ZPd,ZPe,ZPf];clear hK_;refine wTy 18 ?v25 rfl ?y25 HS ?r25
           case y25=>
            intro w_ hS_;go_simp
            try with_reducible rfl
           simp only[Act.put,ZPa,ZPb,ZPc,ZPd,ZPe,ZPf];refine wTy 19 ?v26 rfl ?y26 HS ?r26
           case y26=>
            intro w_ hS_;go_simp
            try with_reducible rfl
           simp only[Act.put,ZPa,ZPb,ZPc,ZPd,ZPe,ZPf];refine wTy 20 ?v27 rfl ?y27 HS ?r27
           case y27=>
            intro w_ hS_;go_simp
            try with_reducible rfl
           simp only[Act.put,ZPa,ZPb,ZPc,ZPd,ZPe,ZPf]
           refine wpAnyH_two (j:=21) (k:=22) (fuel:=3) (by kernel_rfl) rfl rfl (by kernel_rfl) (by kernel_rfl) (fun K_ hK_=>?_) (fun K_ hK_=>?_)
           ·refine wp_world_op (.pointer (some ⟨q1.heap.size,0,none⟩)) (q1.alloc (.cells #[.int .u64 0,nS,nS] 27)) (by kernel_rfl) ?_
            have hb_:Below q1.heap.size q1 (q1.alloc (.cells #[.int .u64 0,nS,nS] 27)):=(Below.refl _ _).alloc (Nat.le_refl _) _
            have lo_gX:wr.heap.size≤q1.heap.size:=hbr.size;have lh_gX:=hcw;have RX:=hp1_0 q1 (.cells #[.int .u64 0,nS,nS] 27);replace hvt:=hvt.blw hb_;replace hcw:=Nat.le_trans hcw hb_.size
            replace HS:=ss_keep HS hb_ (by have:=hbr.size;omega) (by have:=hbr.size;omega)
            replace hbr:=Below.after hbr hb_;clear hb_;refine hK_ _ _ HS ?_;simp only[Act.put,ZPa,ZPb,ZPc,ZPd,ZPe,ZPf];clear hK_
            generalize q1.alloc (.cells #[.int .u64 0,nS,nS] 27)=q2 at *
            generalize q1.heap.size=gX at *
            refine wpAnyH_one (k:=22) (fuel:=2) (by kernel_rfl) rfl (by kernel_rfl) (fun K_ hK_=>?_)
            refine wp_world_op (.pointer (some ⟨q2.heap.size,0,none⟩)) (q2.alloc (.cells #[.int .i64 0,.int .i64 0,.int .i64 0] 41)) (by kernel_rfl) ?_
            have hb_:Below q2.heap.size q2 (q2.alloc (.cells #[.int .i64 0,.int .i64 0,.int .i64 0] 41)):=(Below.refl _ _).alloc (Nat.le_refl _) _;have lo_gY:wr.heap.size≤q2.heap.size:=hbr.size;have lt_RX_gY:=lt_of_row RX;have lh_gY:=hcw;have RY:=hp1_0 q2 (.cells #[.int .i64 0,.int .i64 0,.int .i64 0] 41);replace RX:=keep hb_ RX;replace hvt:=hvt.blw hb_;replace hcw:=Nat.le_trans hcw hb_.size
            replace HS:=ss_keep HS hb_ (by have:=hbr.size;omega) (by have:=hbr.size;omega)
            replace hbr:=Below.after hbr hb_;clear hb_;refine hK_ _ _ HS ?_;simp only[Act.put,ZPa,ZPb,ZPc,ZPd,ZPe,ZPf];clear hK_
            generalize q2.alloc (.cells #[.int .i64 0,.int .i64 0,.int .i64 0] 41)=q3 at *
            generalize q2.heap.size=gY at *
            exact key0_ x fl fa fw gX gY q3 ⟨hbr,HS,RX,RY,by omega,by omega,by omega,hvt.wid (fun b hb_=>⟨⟨⟨by omega,by omega⟩,fun e=>by have:=hpor b e;omega⟩,by omega,by omega⟩),hfl⟩
           ·refine wp_world_op (.pointer (some ⟨q1.heap.size,0,none⟩)) (q1.alloc (.cells #[.int .i64 0,.int .i64 0,.int .i64 0] 41)) (by kernel_rfl) ?_
            have hb_:Below q1.heap.size q1 (q1.alloc (.cells #[.int .i64 0,.int .i64 0,.int .i64 0] 41)):=(Below.refl _ _).alloc (Nat.le_refl _) _
            have lo_gY:wr.heap.size≤q1.heap.size:=hbr.size;have lh_gY:=hcw;have RY:=hp1_0 q1 (.cells #[.int .i64 0,.int .i64 0,.int .i64 0] 41);replace hvt:=hvt.blw hb_;replace hcw:=Nat.le_trans hcw hb_.size
            replace HS:=ss_keep HS hb_ (by have:=hbr.size;omega) (by have:=hbr.size;omega)
            replace hbr:=Below.after hbr hb_;clear hb_;refine hK_ _ _ HS ?_;simp only[Act.put,ZPa,ZPb,ZPc,ZPd,ZPe,ZPf];clear hK_
            generalize q1.alloc (.cells #[.int .i64 0,.int .i64 0,.int .i64 0] 41)=q4 at *
            generalize q1.heap.size=gY at *
            refine wpAnyH_one (k:=21) (fuel:=2) (by kernel_rfl) rfl (by kernel_rfl) (fun K_ hK_=>?_)
            refine wp_world_op (.pointer (some ⟨q4.heap.size,0,none⟩)) (q4.alloc (.cells #[.int .u64 0,nS,nS] 27)) (by kernel_rfl) ?_
            have hb_:Below q4.heap.size q4 (q4.alloc (.cells #[.int .u64 0,nS,nS] 27)):=(Below.refl _ _).alloc (Nat.le_refl _) _;have lo_gX:wr.heap.size≤q4.heap.size:=hbr.size;have lt_RY_gX:=lt_of_row RY;have lh_gX:=hcw;have RX:=hp1_0 q4 (.cells #[.int .u64 0,nS,nS] 27);replace RY:=keep hb_ RY;replace hvt:=hvt.blw hb_;replace hcw:=Nat.le_trans hcw hb_.size
            replace HS:=ss_keep HS hb_ (by have:=hbr.size;omega) (by have:=hbr.size;omega)
            replace hbr:=Below.after hbr hb_;clear hb_;refine hK_ _ _ HS ?_;simp only[Act.put,ZPa,ZPb,ZPc,ZPd,ZPe,ZPf];clear hK_
            generalize q4.alloc (.cells #[.int .u64 0,nS,nS] 27)=q5 at *
            generalize q4.heap.size=gX at *
            exact key0_ x fl fa fw gX gY q5 ⟨hbr,HS,RX,RY,by omega,by omega,by omega,hvt.wid (fun b hb_=>⟨⟨⟨by omega,by omega⟩,fun e=>by have:=hpor b e;omega⟩,by omega,by omega⟩),hfl⟩
          ·refine wp_world_op (.pointer (some ⟨a6.heap.size,0,none⟩)) (a6.alloc (.cells #[.int .u64 0,nS,nS] 27)) (by kernel_rfl) ?_
           have hb_:Below a6.heap.size a6 (a6.alloc (.cells #[.int .u64 0,nS,nS] 27)):=(Below.refl _ _).alloc (Nat.le_refl _) _
           have lo_gX:wr.heap.size≤a6.heap.size:=hbr.size;have RX:=hp1_0 a6 (.cells #[.int .u64 0,nS,nS] 27)
           replace HS:=ss_keep HS hb_ (by have:=hbr.size;omega) (by have:=hbr.size;omega)
           replace hbr:=Below.after hbr hb_;clear hb_;refine hK_ _ _ HS ?_;simp only[Act.put,ZPa,ZPb,ZPc,ZPd,ZPe,ZPf];clear hK_
           generalize a6.alloc (.cells #[.int .u64 0,nS,nS] 27)=q6 at *
           generalize a6.heap.size=gX at *
           refine wpAnyH_two (j:=17) (k:=22) (fuel:=6) (by kernel_rfl) rfl rfl (by kernel_rfl) (by kernel_rfl) (fun K_ hK_=>?_) (fun K_ hK_=>?_)
           ·have lc_gX:=lt_of_row RX
            have hcL:=hbr.size
            refine wp_call_ex (f:=63) (R:=fun u w'=>(∃x fl fa fw,u=.tuple #[.agg (vrv x),.agg #[.int .i64 fl,.int .i64 fa,.int .i64 fw]]∧VtO w' (fun b=>(w0.heap.size≤b∧b<y.heap.size)∨q6.heap.size≤b) x (valU Fk X)∧flr Fk=#[.int .i64 fl,.int .i64 fa,.int .i64 fw])∧Below q6.heap.size q6 w') (by kernel_rfl) (cV.out q6 hbr) (fun v_ q7 hX_=>?_)
            obtain⟨⟨x,fl,fa,fw,rfl,hvt,hfl⟩,hb_⟩:=hX_
            have oneA:(vrv x).all (·.oneCell')=true:=by simp[vrv,vrw,Value.oneCell']
            have oneB:(#[Value.int .i64 fl,.int .i64 fa,.int .i64 fw]:Array Value).all (·.oneCell')=true:=by simp[Value.oneCell']
            have hcw:q7.heap.size≤q7.heap.size:=Nat.le_refl _;replace hvt:=vtm_upto hvt;have hcH:=hb_.size;replace RX:=keep hb_ RX
            replace HS:=ss_keep HS hb_ (by have:=hbr.size;omega) (by have:=hbr.size;omega)
            replace hbr:=Below.after hbr hb_;clear hb_;refine hK_ _ _ HS ?_;simp only[Act.put,ZPa,ZPb,ZPc,ZPd,ZPe,ZPf];clear hK_;refine wTy 18 ?v28 rfl ?y28 HS ?r28
            case y28=>
             intro w_ hS_;go_simp
             try with_reducible rfl
            simp only[Act.put,ZPa,ZPb,ZPc,ZPd,ZPe,ZPf];refine wTy 19 ?v29 rfl ?y29 HS ?r29
            case y29=>
             intro w_ hS_;go_simp
             try with_reducible rfl
            simp only[Act.put,ZPa,ZPb,ZPc,ZPd,ZPe,ZPf];refine wTy 20 ?v30 rfl ?y30 HS ?r30
            case y30=>
             intro w_ hS_;go_simp
             try with_reducible rfl
            simp only[Act.put,ZPa,ZPb,ZPc,ZPd,ZPe,ZPf]
            refine wpAnyH_one (k:=22) (fuel:=2) (by kernel_rfl) rfl (by kernel_rfl) (fun K_ hK_=>?_)
            refine wp_world_op (.pointer (some ⟨q7.heap.size,0,none⟩)) (q7.alloc (.cells #[.int .i64 0,.int .i64 0,.int .i64 0] 41)) (by kernel_rfl) ?_
            have hb_:Below q7.heap.size q7 (q7.alloc (.cells #[.int .i64 0,.int .i64 0,.int .i64 0] 41)):=(Below.refl _ _).alloc (Nat.le_refl _) _;have lo_gY:wr.heap.size≤q7.heap.size:=hbr.size;have lt_RX_gY:=lt_of_row RX;have lh_gY:=hcw;have RY:=hp1_0 q7 (.cells #[.int .i64 0,.int .i64 0,.int .i64 0] 41);replace RX:=keep hb_ RX;replace hvt:=hvt.blw hb_;replace hcw:=Nat.le_trans hcw hb_.size
            replace HS:=ss_keep HS hb_ (by have:=hbr.size;omega) (by have:=hbr.size;omega)
            replace hbr:=Below.after hbr hb_;clear hb_;refine hK_ _ _ HS ?_;simp only[Act.put,ZPa,ZPb,ZPc,ZPd,ZPe,ZPf];clear hK_
            generalize q7.alloc (.cells #[.int .i64 0,.int .i64 0,.int .i64 0] 41)=q8 at *
            generalize q7.heap.size=gY at *
            exact key0_ x fl fa fw gX gY q8 ⟨hbr,HS,RX,RY,by omega,by omega,by omega,hvt.wid (fun b hb_=>⟨⟨⟨by omega,by omega⟩,fun e=>by have:=hpor b e;omega⟩,by omega,by omega⟩),hfl⟩
           ·refine wp_world_op (.pointer (some ⟨q6.heap.size,0,none⟩)) (q6.alloc (.cells #[.int .i64 0,.int .i64 0,.int .i64 0] 41)) (by kernel_rfl) ?_
            have hb_:Below q6.heap.size q6 (q6.alloc (.cells #[.int .i64 0,.int .i64 0,.int .i64 0] 41)):=(Below.refl _ _).alloc (Nat.le_refl _) _
            have lo_gY:wr.heap.size≤q6.heap.size:=hbr.size;have lt_RX_gY:=lt_of_row RX;have RY:=hp1_0 q6 (.cells #[.int .i64 0,.int .i64 0,.int .i64 0] 41);replace RX:=keep hb_ RX
            replace HS:=ss_keep HS hb_ (by have:=hbr.size;omega) (by have:=hbr.size;omega)
            replace hbr:=Below.after hbr hb_;clear hb_;refine hK_ _ _ HS ?_;simp only[Act.put,ZPa,ZPb,ZPc,ZPd,ZPe,ZPf];clear hK_
            generalize q6.alloc (.cells #[.int .i64 0,.int .i64 0,.int .i64 0] 41)=q9 at *
            generalize q6.heap.size=gY at *
            refine wpAnyH_one (k:=17) (fuel:=5) (by kernel_rfl) rfl (by kernel_rfl) (fun K_ hK_=>?_)
            have lc_gX:=lt_of_row RX;have lc_gY:=lt_of_row RY;have hcL:=hbr.size
            refine wp_call_ex (f:=63) (R:=fun u w'=>(∃x fl fa fw,u=.tuple #[.agg (vrv x),.agg #[.int .i64 fl,.int .i64 fa,.int .i64 fw]]∧VtO w' (fun b=>(w0.heap.size≤b∧b<y.heap.size)∨q9.heap.size≤b) x (valU Fk X)∧flr Fk=#[.int .i64 fl,.int .i64 fa,.int .i64 fw])∧Below q9.heap.size q9 w') (by kernel_rfl) (cV.out q9 hbr) (fun v_ q10 hX_=>?_)
            obtain⟨⟨x,fl,fa,fw,rfl,hvt,hfl⟩,hb_⟩:=hX_
            have oneA:(vrv x).all (·.oneCell')=true:=by simp[vrv,vrw,Value.oneCell']
            have oneB:(#[Value.int .i64 fl,.int .i64 fa,.int .i64 fw]:Array Value).all (·.oneCell')=true:=by simp[Value.oneCell']
            have hcw:q10.heap.size≤q10.heap.size:=Nat.le_refl _;replace hvt:=vtm_upto hvt;have hcH:=hb_.size;replace RX:=keep hb_ RX;replace RY:=keep hb_ RY
            replace HS:=ss_keep HS hb_ (by have:=hbr.size;omega) (by have:=hbr.size;omega)
            replace hbr:=Below.after hbr hb_;clear hb_;refine hK_ _ _ HS ?_;simp only[Act.put,ZPa,ZPb,ZPc,ZPd,ZPe,ZPf];clear hK_;refine wTy 18 ?v31 rfl ?y31 HS ?r31
            case y31=>
             intro w_ hS_;go_simp
             try with_reducible rfl
            simp only[Act.put,ZPa,ZPb,ZPc,ZPd,ZPe,ZPf];refine wTy 19 ?v32 rfl ?y32 HS ?r32
            case y32=>
             intro w_ hS_;go_simp
             try with_reducible rfl
            simp only[Act.put,ZPa,ZPb,ZPc,ZPd,ZPe,ZPf];refine wTy 20 ?v33 rfl ?y33 HS ?r33
            case y33=>
             intro w_ hS_;go_simp
             try with_reducible rfl
            simp only[Act.put,ZPa,ZPb,ZPc,ZPd,ZPe,ZPf]
            exact key0_ x fl fa fw gX gY q10 ⟨hbr,HS,RX,RY,by omega,by omega,by omega,hvt.wid (fun b hb_=>⟨⟨⟨by omega,by omega⟩,fun e=>by have:=hpor b e;omega⟩,by omega,by omega⟩),hfl⟩
          ·refine wp_world_op (.pointer (some ⟨a6.heap.size,0,none⟩)) (a6.alloc (.cells #[.int .i64 0,.int .i64 0,.int .i64 0] 41)) (by kernel_rfl) ?_
           have hb_:Below a6.heap.size a6 (a6.alloc (.cells #[.int .i64 0,.int .i64 0,.int .i64 0] 41)):=(Below.refl _ _).alloc (Nat.le_refl _) _
           have lo_gY:wr.heap.size≤a6.heap.size:=hbr.size;have RY:=hp1_0 a6 (.cells #[.int .i64 0,.int .i64 0,.int .i64 0] 41)
           replace HS:=ss_keep HS hb_ (by have:=hbr.size;omega) (by have:=hbr.size;omega)
           replace hbr:=Below.after hbr hb_;clear hb_;refine hK_ _ _ HS ?_;simp only[Act.put,ZPa,ZPb,ZPc,ZPd,ZPe,ZPf];clear hK_
           generalize a6.alloc (.cells #[.int .i64 0,.int .i64 0,.int .i64 0] 41)=q11 at *
           generalize a6.heap.size=gY at *
           refine wpAnyH_two (j:=17) (k:=21) (fuel:=6) (by kernel_rfl) rfl rfl (by kernel_rfl) (by kernel_rfl) (fun K_ hK_=>?_) (fun K_ hK_=>?_)
           ·have lc_gY:=lt_of_row RY
            have hcL:=hbr.size
            refine wp_call_ex (f:=63) (R:=fun u w'=>(∃x fl fa fw,u=.tuple #[.agg (vrv x),.agg #[.int .i64 fl,.int .i64 fa,.int .i64 fw]]∧VtO w' (fun b=>(w0.heap.size≤b∧b<y.heap.size)∨q11.heap.size≤b) x (valU Fk X)∧flr Fk=#[.int .i64 fl,.int .i64 fa,.int .i64 fw])∧Below q11.heap.size q11 w') (by kernel_rfl) (cV.out q11 hbr) (fun v_ q12 hX_=>?_)
            obtain⟨⟨x,fl,fa,fw,rfl,hvt,hfl⟩,hb_⟩:=hX_
            have oneA:(vrv x).all (·.oneCell')=true:=by simp[vrv,vrw,Value.oneCell']
            have oneB:(#[Value.int .i64 fl,.int .i64 fa,.int .i64 fw]:Array Value).all (·.oneCell')=true:=by simp[Value.oneCell']
            have hcw:q12.heap.size≤q12.heap.size:=Nat.le_refl _;replace hvt:=vtm_upto hvt;have hcH:=hb_.size;replace RY:=keep hb_ RY
            replace HS:=ss_keep HS hb_ (by have:=hbr.size;omega) (by have:=hbr.size;omega)
            replace hbr:=Below.after hbr hb_;clear hb_;refine hK_ _ _ HS ?_;simp only[Act.put,ZPa,ZPb,ZPc,ZPd,ZPe,ZPf];clear hK_;refine wTy 18 ?v34 rfl ?y34 HS ?r34
            case y34=>
             intro w_ hS_;go_simp
             try with_reducible rfl
            simp only[Act.put,ZPa,ZPb,ZPc,ZPd,ZPe,ZPf];refine wTy 19 ?v35 rfl ?y35 HS ?r35
            case y35=>
             intro w_ hS_;go_simp
             try with_reducible rfl
            simp only[Act.put,ZPa,ZPb,ZPc,ZPd,ZPe,ZPf];refine wTy 20 ?v36 rfl ?y36 HS ?r36
            case y36=>
             intro w_ hS_;go_simp
             try with_reducible rfl
            simp only[Act.put,ZPa,ZPb,ZPc,ZPd,ZPe,ZPf]
            refine wpAnyH_one (k:=21) (fuel:=2) (by kernel_rfl) rfl (by kernel_rfl) (fun K_ hK_=>?_)
            refine wp_world_op (.pointer (some ⟨q12.heap.size,0,none⟩)) (q12.alloc (.cells #[.int .u64 0,nS,nS] 27)) (by kernel_rfl) ?_
            have hb_:Below q12.heap.size q12 (q12.alloc (.cells #[.int .u64 0,nS,nS] 27)):=(Below.refl _ _).alloc (Nat.le_refl _) _;have lo_gX:wr.heap.size≤q12.heap.size:=hbr.size;have lt_RY_gX:=lt_of_row RY;have lh_gX:=hcw;have RX:=hp1_0 q12 (.cells #[.int .u64 0,nS,nS] 27);replace RY:=keep hb_ RY;replace hvt:=hvt.blw hb_;replace hcw:=Nat.le_trans hcw hb_.size
            replace HS:=ss_keep HS hb_ (by have:=hbr.size;omega) (by have:=hbr.size;omega)
            replace hbr:=Below.after hbr hb_;clear hb_;refine hK_ _ _ HS ?_;simp only[Act.put,ZPa,ZPb,ZPc,ZPd,ZPe,ZPf];clear hK_
            generalize q12.alloc (.cells #[.int .u64 0,nS,nS] 27)=q13 at *
            generalize q12.heap.size=gX at *
            exact key0_ x fl fa fw gX gY q13 ⟨hbr,HS,RX,RY,by omega,by omega,by omega,hvt.wid (fun b hb_=>⟨⟨⟨by omega,by omega⟩,fun e=>by have:=hpor b e;omega⟩,by omega,by omega⟩),hfl⟩
           ·refine wp_world_op (.pointer (some ⟨q11.heap.size,0,none⟩)) (q11.alloc (.cells #[.int .u64 0,nS,nS] 27)) (by kernel_rfl) ?_
            have hb_:Below q11.heap.size q11 (q11.alloc (.cells #[.int .u64 0,nS,nS] 27)):=(Below.refl _ _).alloc (Nat.le_refl _) _
            have lo_gX:wr.heap.size≤q11.heap.size:=hbr.size;have lt_RY_gX:=lt_of_row RY;have RX:=hp1_0 q11 (.cells #[.int .u64 0,nS,nS] 27);replace RY:=keep hb_ RY
            replace HS:=ss_keep HS hb_ (by have:=hbr.size;omega) (by have:=hbr.size;omega)
            replace hbr:=Below.after hbr hb_;clear hb_;refine hK_ _ _ HS ?_;simp only[Act.put,ZPa,ZPb,ZPc,ZPd,ZPe,ZPf];clear hK_
            generalize q11.alloc (.cells #[.int .u64 0,nS,nS] 27)=q14 at *
            generalize q11.heap.size=gX at *
            refine wpAnyH_one (k:=17) (fuel:=5) (by kernel_rfl) rfl (by kernel_rfl) (fun K_ hK_=>?_)
            have lc_gX:=lt_of_row RX;have lc_gY:=lt_of_row RY;have hcL:=hbr.size
            refine wp_call_ex (f:=63) (R:=fun u w'=>(∃x fl fa fw,u=.tuple #[.agg (vrv x),.agg #[.int .i64 fl,.int .i64 fa,.int .i64 fw]]∧VtO w' (fun b=>(w0.heap.size≤b∧b<y.heap.size)∨q14.heap.size≤b) x (valU Fk X)∧flr Fk=#[.int .i64 fl,.int .i64 fa,.int .i64 fw])∧Below q14.heap.size q14 w') (by kernel_rfl) (cV.out q14 hbr) (fun v_ q15 hX_=>?_)
            obtain⟨⟨x,fl,fa,fw,rfl,hvt,hfl⟩,hb_⟩:=hX_
            have oneA:(vrv x).all (·.oneCell')=true:=by simp[vrv,vrw,Value.oneCell']
            have oneB:(#[Value.int .i64 fl,.int .i64 fa,.int .i64 fw]:Array Value).all (·.oneCell')=true:=by simp[Value.oneCell']
            have hcw:q15.heap.size≤q15.heap.size:=Nat.le_refl _;replace hvt:=vtm_upto hvt;have hcH:=hb_.size;replace RY:=keep hb_ RY;replace RX:=keep hb_ RX
            replace HS:=ss_keep HS hb_ (by have:=hbr.size;omega) (by have:=hbr.size;omega)
            replace hbr:=Below.after hbr hb_;clear hb_;refine hK_ _ _ HS ?_;simp only[Act.put,ZPa,ZPb,ZPc,ZPd,ZPe,ZPf];clear hK_;refine wTy 18 ?v37 rfl ?y37 HS ?r37
            case y37=>
             intro w_ hS_;go_simp
             try with_reducible rfl
            simp only[Act.put,ZPa,ZPb,ZPc,ZPd,ZPe,ZPf];refine wTy 19 ?v38 rfl ?y38 HS ?r38
            case y38=>
             intro w_ hS_;go_simp
             try with_reducible rfl
            simp only[Act.put,ZPa,ZPb,ZPc,ZPd,ZPe,ZPf];refine wTy 20 ?v39 rfl ?y39 HS ?r39
            case y39=>
             intro w_ hS_;go_simp
             try with_reducible rfl
            simp only[Act.put,ZPa,ZPb,ZPc,ZPd,ZPe,ZPf]
            exact key0_ x fl fa fw gX gY q15 ⟨hbr,HS,RX,RY,by omega,by omega,by omega,hvt.wid (fun b hb_=>⟨⟨⟨by omega,by omega⟩,fun e=>by have:=hpor b e;omega⟩,by omega,by omega⟩),hfl⟩
         rintro x fl fa fw gX gY c0 ⟨hbr,HS,RX,RY,hgx_,hgy_,hgn_,hvt,hfl⟩
         have oneA:(vrv x).all (·.oneCell')=true:=by simp[vrv,vrw,Value.oneCell']
         have oneB:(#[Value.int .i64 fl,.int .i64 fa,.int .i64 fw]:Array Value).all (·.oneCell')=true:=by simp[Value.oneCell']
         have hcw:=Nat.le_refl c0.heap.size
         refine wpAnyH_one (k:=23) (fuel:=1) (by kernel_rfl) rfl (by kernel_rfl) (fun K_ hK_=>?_)
         refine wp_store_row 27 _ _ rfl gX (vrv x) rfl rfl 27 _ RX infoV rfl oneA ?_
         replace RY:=(setRow_other c0 gX gY (vrv x) (by omega)).trans RY
         replace hvt:=hvt.other gX (vrv x) (fun b hb_=>⟨by omega,hb_⟩)
         replace RX:=setRow_heap c0 gX _ ((vrv x)) _ _ RX
         replace hbr:=below_setRow hbr (show wr.heap.size≤gX by omega) (vrv x)
         replace HS:=ss_set (q:=gX) HS (vrv x) (by omega) (by omega)
         have hse:(c0.setRow gX (vrv x)).heap.size=c0.heap.size:=by simp[World.setRow]
         rw[←hse] at hcw;clear hse;refine hK_ _ _ HS ?_;simp only[Act.put,ZPa,ZPb,ZPc];clear hK_
         generalize c0.setRow gX (vrv x)=q16 at *
         refine wpAnyH_one (k:=24) (fuel:=0) (by kernel_rfl) rfl (by kernel_rfl) (fun K_ hK_=>?_)
         refine wp_store_row 41 _ _ rfl gY #[.int .i64 fl,.int .i64 fa,.int .i64 fw] rfl rfl 41 _ RY infoFt rfl oneB ?_
         replace RX:=(setRow_other q16 gY gX #[.int .i64 fl,.int .i64 fa,.int .i64 fw] (by omega)).trans RX
         replace hvt:=hvt.other gY #[.int .i64 fl,.int .i64 fa,.int .i64 fw] (fun b hb_=>⟨by omega,hb_⟩)
         replace RY:=setRow_heap q16 gY _ (#[.int .i64 fl,.int .i64 fa,.int .i64 fw]) _ _ RY
         replace hbr:=below_setRow hbr (show wr.heap.size≤gY by omega) #[.int .i64 fl,.int .i64 fa,.int .i64 fw]
         replace HS:=ss_set (q:=gY) HS #[.int .i64 fl,.int .i64 fa,.int .i64 fw] (by omega) (by omega)
         have hse:(q16.setRow gY #[.int .i64 fl,.int .i64 fa,.int .i64 fw]).heap.size=q16.heap.size:=by simp[World.setRow]
         rw[←hse] at hcw;clear hse;refine hK_ _ _ HS ?_;simp only[Act.put,ZPa,ZPb,ZPc];clear hK_
         generalize q16.setRow gY #[.int .i64 fl,.int .i64 fa,.int .i64 fw]=q17 at *
         refine wpAnyH_done (by kernel_rfl) ?_ _
         exact key_ x fl fa fw gX gY q17 ⟨hbr,RX,RY,by omega,by omega,by omega,hvt.wid (fun b hb_=>hb_.1),hfl⟩
        rintro⟨xn,xda,xdl,xdc,xpa,xpl,xpc⟩ fl fa fw gX gY z0 ⟨hbr,RX,RY,hgx_,hgy_,hgn_,hvt,hfl⟩;replace RX:z0.heap[gX]? =some (.cells #[.int .u64 (xn:Int),.slice xda xdl xdc,.slice xpa xpl xpc] 27 (0,0)):=RX
        cases Fk with
        |some fl_=>
         have eR:Hid (R=some fl_):=hide eR2.out;obtain rfl:=flr_some hfl;have hfw:fw≠0:=hfwk _ rfl
         have oneA:(#[Value.int .u64 0,nS,nS]:Array Value).all (·.oneCell')=true:=by simp[Value.oneCell']
         have oneB:(#[Value.int .i64 fl,.int .i64 fa,.int .i64 fw]:Array Value).all (·.oneCell')=true:=by simp[Value.oneCell']
         have bE:(fw !=0)=true:=by simpa using hfw
         have bE2:(fw==0)=false:=by simpa using hfw
         clear eR2 hvt hfl cV;have cW:=cell_of_row _ _ 2 _ _ _ RY;have hbz:=hbr.size;have R6:=keep hbr R6r.out;have R7:=keep hbr R7r.out
         have hW:=hWr.out.trans (hbr.mono (by omega))
         clear RX;have l6:=lt_of_row R6;have l7:=lt_of_row R7
         go_upto_region 18 with(fail)
         clear cW;have hbd:Below z0.heap.size z0 z0.drew:=below_drN (Below.refl _ _) 1;replace RY:=keep hbd RY;replace R6:=keep hbd R6;replace R7:=keep hbd R7;replace hW:=Below.after hW hbd;clear hbd
         refine wp_region_held (S:=fun W:World=>W.heap[gY]? =some (.cells #[.int .i64 fl,.int .i64 fa,.int .i64 fw] 41 (0,0))) (by kernel_rfl) ?_
         change wpAnyH _ _ _ _ _ _ _ _ (World.drew _)
         generalize z0.drew=z1 at *
         refine wTy 0 (.agg #[.int .u64 0,nS,nS]) rfl ?y40 RY ?r40
         case y40=>
          intro w_ hS_;go_simp
          try with_reducible rfl
         simp only[Act.put,ZPa,ZPc,ZPd,ZPe,ZPf]
         refine wTk (i:=1) (v:=.agg #[.int .i64 fl,.int .i64 fa,.int .i64 fw]) rfl (yieldsIf_load_mid (by rfl) 41 _ rfl gY 0 rfl [.int .i64 fl,.int .i64 fa,.int .i64 fw] _ (fun _ h=>range_row ⟨_,h⟩) Tryz.underlying41 rfl infoFt) RY ?_
         simp only[Act.put,ZPa,ZPb,ZPc,ZPd,ZPe,ZPf]
         refine wpAnyH_one (k:=2) (fuel:=1) (by kernel_rfl) rfl (by kernel_rfl) (fun K_ hK_=>?_)
         refine wp_store_row 27 _ _ rfl (w.heap.size) #[.int .u64 0,nS,nS] rfl rfl 27 _ R6 infoV rfl oneA ?_
         replace RY:=(setRow_other z1 (w.heap.size) gY #[.int .u64 0,nS,nS] (by omega)).trans RY
         replace R7:=(setRow_other z1 (w.heap.size) (w.heap.size+1) #[.int .u64 0,nS,nS] (by omega)).trans R7
         replace R6:=setRow_heap z1 (w.heap.size) _ (#[.int .u64 0,nS,nS]) _ _ R6
         replace hW:=below_setRow hW (show w.heap.size≤w.heap.size by omega) #[.int .u64 0,nS,nS]
         refine hK_ _ _ RY ?_;simp only[Act.put,ZPa,ZPb,ZPc];clear hK_
         generalize z1.setRow (w.heap.size) #[.int .u64 0,nS,nS]=z2 at *
         refine wpAnyH_one (k:=3) (fuel:=0) (by kernel_rfl) rfl (by kernel_rfl) (fun K_ hK_=>?_)
         refine wp_store_row 41 _ _ rfl (w.heap.size+1) #[.int .i64 fl,.int .i64 fa,.int .i64 fw] rfl rfl 41 _ R7 infoFt rfl oneB ?_
         replace RY:=(setRow_other z2 (w.heap.size+1) gY #[.int .i64 fl,.int .i64 fa,.int .i64 fw] (by omega)).trans RY
         replace R6:=(setRow_other z2 (w.heap.size+1) (w.heap.size) #[.int .i64 fl,.int .i64 fa,.int .i64 fw] (by omega)).trans R6
         replace R7:=setRow_heap z2 (w.heap.size+1) _ (#[.int .i64 fl,.int .i64 fa,.int .i64 fw]) _ _ R7
         replace hW:=below_setRow hW (show w.heap.size≤w.heap.size+1 by omega) #[.int .i64 fl,.int .i64 fa,.int .i64 fw]
         refine hK_ _ _ RY ?_;simp only[Act.put,ZPa,ZPb,ZPc];clear hK_
         refine wpAnyH_done (by kernel_rfl) ?_ _
         go_wp2_with (fail)
         exact bodyPost_ret (v:=.tuple #[.agg #[.int .u64 0,nS,nS],.agg #[.int .i64 fl,.int .i64 fa,.int .i64 fw]]) (results_cell_cell Tryz.results39 _ _ (w.heap.size) (w.heap.size+1) _ _ _ _ _ _ _ _ rfl R6 Tryz.underlying27 rfl infoV rfl R7 Tryz.underlying41 rfl infoFt) rfl (by unfold VaQ;rw[hR.out,eR.out];exact⟨rfl,hW⟩)
        |none=>
         have eR:Hid (R=dcT utD flD (ts.drop (k+1)) (fs.drop (k+1)) EN):=hide eR2.out;obtain⟨rfl,rfl,rfl⟩:=flr_none hfl;clear eR2 hfl cV;have cY:=cell_of_row _ _ 2 _ _ _ RY;have hbz:=hbr.size;have RVb:=keep hbr RVbr.out;have hPw:=hPr.out.keep hbr;have cP:=cell_of_row _ _ 2 _ _ _ RVb;have NVc:=new_cells4 z0 #[.int .u64 (xn:Int),.slice xda xdl xdc,.slice xpa xpl xpc] 27;have hb_:Below z0.heap.size z0 (z0.alloc (.cells #[.int .u64 (xn:Int),.slice xda xdl xdc,.slice xpa xpl xpc] 27)):=(Below.refl _ _).alloc (Nat.le_refl _) _;have R1:=hide (keep hb_ RVb);have P1:=hide (hPw.keep hb_);have v1:=hide (hvt.blw hb_);have B1:=hide (Below.after (Below.after hby.out hbr) hb_);clear hb_ hbr RVb hPw hvt;obtain⟨iV,hiV,hiz,his,hib⟩:=infoVI;have hOk:=P1.out.1;rw[hlk.out] at hOk;have hpo1:=own_high_row hOk
         go_wp2_with (first|(refine wpList_load_want rfl 27 _ rfl gX rfl 27 #[.int .u64 (xn:Int),.slice xda xdl xdc,.slice xpa xpl xpc] (0,0) _ RX Tryz.underlying27 rfl infoV ?_)|(at_builtin;refine wpList_plain rfl fun K_ hKp=>wp_append_nx _ _ 25 rfl (y.heap.size+1) 27 iV (.agg #[.int .u64 0,nS,nS]) 3 56 Tryz.underlying25 hiV hiz his hib rfl (by decide) (.slice pva k pvc) k (vrs xs) rfl hOk ⟨z0.heap.size,0,none⟩ 1 1 [.int .u64 (xn:Int),.slice xda xdl xdc,.slice xpa xpl xpc] rfl rfl NVc (fun x hx=>by simp at hx;rcases hx with rfl|rfl|rfl<;>rfl) (by unfold maxLen;omega) (by omega) (by have:=B1.out.size;simp;omega) ?_)|fail)
         intro pv' x4 hO4 hgr hnx;refine hKp _ _ ?_;clear hKp
         have P4:=P1.out.snoc v1.out (by rw[hlk.out];exact hO4) hgr hnx
         have R4:=(hgr.block y.heap.size (by simp;omega) (fun e=>by have:=(hpo1 _ e.symm).1;omega)).trans R1.out
         have szB1:=B1.out.size
         have B4:=B1.out.grown hgr szB1 (fun z e=>by have:=(hpo1 z e).1;omega)
         obtain⟨po,pc,rfl⟩:=own_slice hO4;have R5:=hide (setRow_heap x4 y.heap.size _ #[.int .u64 0,nS,.slice po (k+1) pc] _ _ R4);have B5:=hide (below_setRow (g:=y.heap.size) B4 (Nat.le_refl _) #[.int .u64 0,nS,.slice po (k+1) pc])
         have P5:=hide (P4.oth y.heap.size #[.int .u64 0,nS,.slice po (k+1) pc] (fun q=>q.2 rfl) (by omega))
         clear R1 P1 v1 B1 B4 P4 hO4 hgr hnx NVc cP RX RY hpo1 szB1 hOk cY
         go_wp2_with (first|(refine wpList_store_cellY rfl 25 _ _ rfl y.heap.size 2 (.slice po (k+1) pc) rfl rfl 27 #[.int .u64 0,nS,.slice pva k pvc] #[.int .u64 0,nS,.slice po (k+1) pc] R4 (by show 2<3;decide) rfl infoVSY rfl ?_)|fail)
         refine⟨⟨k+1,_,_,by omega,by omega,by go_num,by rw[hat1.out],by rw[hat1.out];exact eR.out,R5.out,by rw[hvk.out];exact P5.out,B5.out⟩,?_⟩
         simp[intOf];omega
       ·rw[if_pos hty] at eR
        simp only at eR
        replace eR:=hide eR
        have bt1:(fty !=wk)=true:=by simpa using hty
        have bt2:(fty==wk)=false:=by simpa using hty
        clear cVl0;have R6:=keep hbr R6r.out;have R7:=keep hbr R7r.out
        have hW:=hWr.out.trans (hbr.mono (by omega))
        clear HS cW_ cT
        have oneA:(#[Value.int .u64 0,nS,nS]:Array Value).all (·.oneCell')=true:=by simp[Value.oneCell']
        have oneB:(#[Value.int .i64 0,.int .i64 at_,.int .i64 82]:Array Value).all (·.oneCell')=true:=by simp[Value.oneCell']
        have cA:=hide (r_at (at_) (82) a4);replace hW:=hide hW;replace R6:=hide R6;replace R7:=hide R7
        go_wp2_with (first|(refine wpList_build_want rfl 27 _ rfl [] rfl #[.int .u64 0,nS,nS] builtZvR ?_)|fail)
        refine cA.out.mono ?_;rintro e_ x2 ⟨rfl,hb2⟩;replace R6:=keep hb2 R6.out;replace R7:=keep hb2 R7.out;replace hW:=Below.after hW.out hb2;clear hb2 cA
        go_wp2_with (first|(refine wpList_store_row rfl 27 _ _ rfl (w.heap.size) #[.int .u64 0,nS,nS] rfl rfl 27 _ R6 infoV rfl oneA ?_)|(refine wpList_store_row rfl 41 _ _ rfl (w.heap.size+1) #[.int .i64 0,.int .i64 at_,.int .i64 82] rfl rfl 41 _ ((setRow_other x2 (w.heap.size) (w.heap.size+1) #[.int .u64 0,nS,nS] (by omega)).trans R7) infoFt rfl oneB ?_)|fail)
        replace R7:=(setRow_other x2 (w.heap.size) (w.heap.size+1) #[.int .u64 0,nS,nS] (by omega)).trans R7
        replace R6:=setRow_heap x2 (w.heap.size) _ (#[.int .u64 0,nS,nS]) _ _ R6
        replace hW:=below_setRow hW (show w.heap.size≤w.heap.size by omega) #[.int .u64 0,nS,nS]
        generalize x2.setRow (w.heap.size) #[.int .u64 0,nS,nS]=x3 at *
        replace R6:=(setRow_other x3 (w.heap.size+1) (w.heap.size) #[.int .i64 0,.int .i64 at_,.int .i64 82] (by omega)).trans R6
        replace R7:=setRow_heap x3 (w.heap.size+1) _ (#[.int .i64 0,.int .i64 at_,.int .i64 82]) _ _ R7
        replace hW:=below_setRow hW (show w.heap.size≤w.heap.size+1 by omega) #[.int .i64 0,.int .i64 at_,.int .i64 82]
        exact bodyPost_ret (v:=.tuple #[.agg #[.int .u64 0,nS,nS],.agg #[.int .i64 0,.int .i64 at_,.int .i64 82]]) (results_cell_cell Tryz.results39 _ _ (w.heap.size) (w.heap.size+1) _ _ _ _ _ _ _ _ rfl R6 Tryz.underlying27 rfl infoV rfl R7 Tryz.underlying41 rfl infoFt) rfl (by unfold VaQ;rw[hR.out,eR.out];exact⟨rfl,hW⟩)
      ·rw[if_pos hno] at eR
       simp only at eR
       replace eR:=hide eR
       have bn1:(fno !=no)=true:=by simpa using hno
       have bn2:(fno==no)=false:=by simpa using hno
       clear cVl0;have R6:=keep hbr R6r.out;have R7:=keep hbr R7r.out
       have hW:=hWr.out.trans (hbr.mono (by omega))
       clear HS cW_ cT
       have oneA:(#[Value.int .u64 0,nS,nS]:Array Value).all (·.oneCell')=true:=by simp[Value.oneCell']
       have oneB:(#[Value.int .i64 0,.int .i64 at_,.int .i64 81]:Array Value).all (·.oneCell')=true:=by simp[Value.oneCell']
       have cA:=hide (r_at (at_) (81) a1);replace hW:=hide hW;replace R6:=hide R6;replace R7:=hide R7
       go_wp2_with (first|(refine wpList_build_want rfl 27 _ rfl [] rfl #[.int .u64 0,nS,nS] builtZvR ?_)|fail)
       refine cA.out.mono ?_;rintro e_ x2 ⟨rfl,hb2⟩;replace R6:=keep hb2 R6.out;replace R7:=keep hb2 R7.out;replace hW:=Below.after hW.out hb2;clear hb2 cA
       go_wp2_with (first|(refine wpList_store_row rfl 27 _ _ rfl (w.heap.size) #[.int .u64 0,nS,nS] rfl rfl 27 _ R6 infoV rfl oneA ?_)|(refine wpList_store_row rfl 41 _ _ rfl (w.heap.size+1) #[.int .i64 0,.int .i64 at_,.int .i64 81] rfl rfl 41 _ ((setRow_other x2 (w.heap.size) (w.heap.size+1) #[.int .u64 0,nS,nS] (by omega)).trans R7) infoFt rfl oneB ?_)|fail)
       replace R7:=(setRow_other x2 (w.heap.size) (w.heap.size+1) #[.int .u64 0,nS,nS] (by omega)).trans R7
       replace R6:=setRow_heap x2 (w.heap.size) _ (#[.int .u64 0,nS,nS]) _ _ R6
       replace hW:=below_setRow hW (show w.heap.size≤w.heap.size by omega) #[.int .u64 0,nS,nS]
       generalize x2.setRow (w.heap.size) #[.int .u64 0,nS,nS]=x3 at *
       replace R6:=(setRow_other x3 (w.heap.size+1) (w.heap.size) #[.int .i64 0,.int .i64 at_,.int .i64 81] (by omega)).trans R6
       replace R7:=setRow_heap x3 (w.heap.size+1) _ (#[.int .i64 0,.int .i64 at_,.int .i64 81]) _ _ R7
       replace hW:=below_setRow hW (show w.heap.size≤w.heap.size+1 by omega) #[.int .i64 0,.int .i64 at_,.int .i64 81]
       exact bodyPost_ret (v:=.tuple #[.agg #[.int .u64 0,nS,nS],.agg #[.int .i64 0,.int .i64 at_,.int .i64 81]]) (results_cell_cell Tryz.results39 _ _ (w.heap.size) (w.heap.size+1) _ _ _ _ _ _ _ _ rfl R6 Tryz.underlying27 rfl infoV rfl R7 Tryz.underlying41 rfl infoFt) rfl (by unfold VaQ;rw[hR.out,eR.out];exact⟨rfl,hW⟩)
    ·obtain rfl:k=ts.length:=by omega
     have hdk:decide ((ts.length:Int)<(ts.length:Int))=false:=by simp
     have szy:=hby.size
     have R6:=(hby.block (w.heap.size) (by omega)).trans R6y.out
     have R7:=(hby.block (w.heap.size+1) (by omega)).trans R7y.out
     have hsz0:=hw0.out.size
     have hW:=hw0.out.trans (hby.mono (by omega))
     clear h hs hV hkn hfok hnn
     by_cases hlf:ts.length<fs.length
     ·rw[dcT_long utD flD rfl hlf] at eR
      have hdl:decide ((fs.length:Int)>(ts.length:Int))=true:=by simp;omega
      replace eR:=hide eR
      generalize from_+((ebs (fs.take ts.length)).length:Int)=at_ at *
      clear hP RVb hby
      have oneA:(#[Value.int .u64 0,nS,nS]:Array Value).all (·.oneCell')=true:=by simp[Value.oneCell']
      have oneB:(#[Value.int .i64 0,.int .i64 at_,.int .i64 81]:Array Value).all (·.oneCell')=true:=by simp[Value.oneCell']
      have cA:=hide (r_at (at_) (81) wr);replace hW:=hide hW;replace R6:=hide R6;replace R7:=hide R7
      go_wp2_with (first|(refine wpList_build_want rfl 27 _ rfl [] rfl #[.int .u64 0,nS,nS] builtZvR ?_)|fail)
      refine cA.out.mono ?_;rintro e_ x2 ⟨rfl,hb2⟩;replace R6:=keep hb2 R6.out;replace R7:=keep hb2 R7.out;replace hW:=Below.after hW.out hb2;clear hb2 cA
      go_wp2_with (first|(refine wpList_store_row rfl 27 _ _ rfl (w.heap.size) #[.int .u64 0,nS,nS] rfl rfl 27 _ R6 infoV rfl oneA ?_)|(refine wpList_store_row rfl 41 _ _ rfl (w.heap.size+1) #[.int .i64 0,.int .i64 at_,.int .i64 81] rfl rfl 41 _ ((setRow_other x2 (w.heap.size) (w.heap.size+1) #[.int .u64 0,nS,nS] (by omega)).trans R7) infoFt rfl oneB ?_)|fail)
      replace R7:=(setRow_other x2 (w.heap.size) (w.heap.size+1) #[.int .u64 0,nS,nS] (by omega)).trans R7
      replace R6:=setRow_heap x2 (w.heap.size) _ (#[.int .u64 0,nS,nS]) _ _ R6
      replace hW:=below_setRow hW (show w.heap.size≤w.heap.size by omega) #[.int .u64 0,nS,nS]
      generalize x2.setRow (w.heap.size) #[.int .u64 0,nS,nS]=x3 at *
      replace R6:=(setRow_other x3 (w.heap.size+1) (w.heap.size) #[.int .i64 0,.int .i64 at_,.int .i64 81] (by omega)).trans R6
      replace R7:=setRow_heap x3 (w.heap.size+1) _ (#[.int .i64 0,.int .i64 at_,.int .i64 81]) _ _ R7
      replace hW:=below_setRow hW (show w.heap.size≤w.heap.size+1 by omega) #[.int .i64 0,.int .i64 at_,.int .i64 81]
      exact bodyPost_ret (v:=.tuple #[.agg #[.int .u64 0,nS,nS],.agg #[.int .i64 0,.int .i64 at_,.int .i64 81]]) (results_cell_cell Tryz.results39 _ _ (w.heap.size) (w.heap.size+1) _ _ _ _ _ _ _ _ rfl R6 Tryz.underlying27 rfl infoV rfl R7 Tryz.underlying41 rfl infoFt) rfl (by unfold VaQ;rw[hR.out,eR.out];exact⟨rfl,hW⟩)
     ·have hle:fs.length=ts.length:=by omega
      rw[dcT_end utD flD rfl hle] at eR
      have hdl:decide ((fs.length:Int)>(ts.length:Int))=false:=by simp;omega
      have hxs:vlT (ts.take ts.length) (fs.take ts.length)=vlT ts fs:=by rw[List.take_length,←hle,List.take_length]
      rw[hxs] at hP hlk
      obtain⟨pa,pc,epv,hmsg⟩:=(hP.paw (lo:=w0.heap.size) (fun b hb_=>hb_.1)).msg (by omega) (by rw[hlk.out];omega)
      rw[hlk.out] at epv hmsg
      injection epv with ep1 ep2 ep3
      subst ep1 ep3
      have hm8:=hmsg.other (w.heap.size) #[.int .u64 0,nS,.slice pva ts.length pvc] (T:=fun b=>w0.heap.size≤b) (fun b hb_=>⟨by omega,hb_⟩)
      have hm9:=hm8.other (w.heap.size+1) #[.int .i64 0,.int .i64 0,.int .i64 0] (T:=fun b=>w.heap.size≤b) (fun b hb_=>⟨by omega,by omega⟩)
      have oneA:(#[Value.int .u64 0,nS,.slice pva ts.length pvc]:Array Value).all (·.oneCell')=true:=by simp[Value.oneCell']
      have oneB:(#[Value.int .i64 0,.int .i64 0,.int .i64 0]:Array Value).all (·.oneCell')=true:=by simp[Value.oneCell']
      clear hm8 hmsg hP hby hFt;replace eR:=hide eR
      go_wp2_with (first|(refine wpList_load_want rfl 27 _ rfl y.heap.size rfl 27 #[.int .u64 0,nS,.slice pva ts.length pvc] (0,0) _ RVb Tryz.underlying27 rfl infoV ?_)|(refine wpList_build_want rfl 41 _ rfl [] rfl #[.int .i64 0,.int .i64 0,.int .i64 0] builtZeR ?_)|(refine wpList_store_row rfl 27 _ _ rfl (w.heap.size) #[.int .u64 0,nS,.slice pva ts.length pvc] rfl rfl 27 _ R6 infoV rfl oneA ?_)|(refine wpList_store_row rfl 41 _ _ rfl (w.heap.size+1) #[.int .i64 0,.int .i64 0,.int .i64 0] rfl rfl 41 _ ((setRow_other wr (w.heap.size) (w.heap.size+1) #[.int .u64 0,nS,.slice pva ts.length pvc] (by omega)).trans R7) infoFt rfl oneB ?_)|fail)
      replace R7:=(setRow_other wr (w.heap.size) (w.heap.size+1) #[.int .u64 0,nS,.slice pva ts.length pvc] (by omega)).trans R7
      replace R6:=setRow_heap wr (w.heap.size) _ (#[.int .u64 0,nS,.slice pva ts.length pvc]) _ _ R6
      replace hW:=below_setRow hW (show w.heap.size≤w.heap.size by omega) #[.int .u64 0,nS,.slice pva ts.length pvc]
      generalize wr.setRow (w.heap.size) #[.int .u64 0,nS,.slice pva ts.length pvc]=w8 at *
      replace R6:=(setRow_other w8 (w.heap.size+1) (w.heap.size) #[.int .i64 0,.int .i64 0,.int .i64 0] (by omega)).trans R6
      replace R7:=setRow_heap w8 (w.heap.size+1) _ (#[.int .i64 0,.int .i64 0,.int .i64 0]) _ _ R7
      replace hW:=below_setRow hW (show w.heap.size≤w.heap.size+1 by omega) #[.int .i64 0,.int .i64 0,.int .i64 0]
      exact bodyPost_ret (v:=.tuple #[.agg #[.int .u64 0,nS,.slice pva ts.length pvc],.agg #[.int .i64 0,.int .i64 0,.int .i64 0]]) (results_cell_cell Tryz.results39 _ _ (w.heap.size) (w.heap.size+1) _ _ _ _ _ _ _ _ rfl R6 Tryz.underlying27 rfl infoV rfl R7 Tryz.underlying41 rfl infoFt) rfl (by unfold VaQ;rw[hR.out,eR.out];exact⟨⟨⟨0,none,0,0,pva,ts.length,pvc⟩,rfl,by rw[hfs.out];exact hm9⟩,hW⟩)
  ·have eR:R=some ⟨0,from_+dpl (dwh d),der (dwh d)⟩:=by rw[←hR0,deT,decN,if_pos hde]
   have hd1:(der (dwh d)==0)=false:=by simpa using hde
   have hd2:(der (dwh d) !=0)=true:=by simpa using hde
   have hdp:=dpl_bd d;replace eR:=hide eR;replace hde:=hide hde;clear hR0
   generalize der (dwh d)=E at *
   generalize dpl (dwh d)=pl at *
   have R6:=R6y.out;have R7:=R7y.out;have hW:=hw0.out;clear h hs hV hFt
   have oneA:(#[Value.int .u64 0,nS,nS]:Array Value).all (·.oneCell')=true:=by simp[Value.oneCell']
   have oneB:(#[Value.int .i64 0,.int .i64 (from_+pl),.int .i64 E]:Array Value).all (·.oneCell')=true:=by simp[Value.oneCell']
   have cA:=hide (r_at ((from_+pl)) (E) y);replace hW:=hide hW;replace R6:=hide R6;replace R7:=hide R7
   go_wp2_with (first|(refine wpList_build_want rfl 27 _ rfl [] rfl #[.int .u64 0,nS,nS] builtZvR ?_)|fail)
   refine cA.out.mono ?_;rintro e_ x2 ⟨rfl,hb2⟩;replace R6:=keep hb2 R6.out;replace R7:=keep hb2 R7.out;replace hW:=Below.after hW.out hb2;clear hb2 cA
   go_wp2_with (first|(refine wpList_store_row rfl 27 _ _ rfl (w.heap.size) #[.int .u64 0,nS,nS] rfl rfl 27 _ R6 infoV rfl oneA ?_)|(refine wpList_store_row rfl 41 _ _ rfl (w.heap.size+1) #[.int .i64 0,.int .i64 (from_+pl),.int .i64 E] rfl rfl 41 _ ((setRow_other x2 (w.heap.size) (w.heap.size+1) #[.int .u64 0,nS,nS] (by omega)).trans R7) infoFt rfl oneB ?_)|fail)
   replace R7:=(setRow_other x2 (w.heap.size) (w.heap.size+1) #[.int .u64 0,nS,nS] (by omega)).trans R7
   replace R6:=setRow_heap x2 (w.heap.size) _ (#[.int .u64 0,nS,nS]) _ _ R6
   replace hW:=below_setRow hW (show w.heap.size≤w.heap.size by omega) #[.int .u64 0,nS,nS]
   generalize x2.setRow (w.heap.size) #[.int .u64 0,nS,nS]=x3 at *
   replace R6:=(setRow_other x3 (w.heap.size+1) (w.heap.size) #[.int .i64 0,.int .i64 (from_+pl),.int .i64 E] (by omega)).trans R6
   replace R7:=setRow_heap x3 (w.heap.size+1) _ (#[.int .i64 0,.int .i64 (from_+pl),.int .i64 E]) _ _ R7
   replace hW:=below_setRow hW (show w.heap.size≤w.heap.size+1 by omega) #[.int .i64 0,.int .i64 (from_+pl),.int .i64 E]
   exact bodyPost_ret (v:=.tuple #[.agg #[.int .u64 0,nS,nS],.agg #[.int .i64 0,.int .i64 (from_+pl),.int .i64 E]]) (results_cell_cell Tryz.results39 _ _ (w.heap.size) (w.heap.size+1) _ _ _ _ _ _ _ _ rfl R6 Tryz.underlying27 rfl infoV rfl R7 Tryz.underlying41 rfl infoFt) rfl (by unfold VaQ;rw[hR.out,eR.out];exact⟨rfl,hW⟩)
theorem r_decodeA:∀(m:Nat) (ts:List Slt),htT ts≤(m:Int)→gd ts→∀(sv:Value) (d:List B) (bv:Value) (from_:Int) (w:World),0≤from_→from_+(d.length:Int)≤1152921504606846976→Slo w sv ts→BysB w bv d→(∀a l c,bv=.slice a l c→l≤c)→
 Calls Tryz.prog 39 #[sv,bv,.int .i64 from_] w (VaQ w (fun b=>w.heap.size≤b) (deT utD flD ts d from_) (mgT ts d)):=by
 intro m
 induction m with
 |zero=>
  intro ts hh _ sv d bv from_ w h0 h1 h hB hc
  refine r_decodeN d bv from_ h0 h1 w h hB hc (fun k hk=>?_)
  have:=htT_sub ts k hk;have:=htT_pos (gs ts k).sub;omega
 |succ m ih=>
  intro ts hh hg sv d bv from_ w h0 h1 h hB hc
  refine r_decodeN d bv from_ h0 h1 w h hB hc (fun k hk u P f da dc at_ V hu hV hF hty hfit=>?_)
  have hs:=htT_sub ts k hk;have hgk:=(gd_at ts k hk hg).2;obtain⟨so,sc,rfl⟩:=hu.form
  exact r_valueT hgk.1 so _ sc P f da dc at_ V hF hty hfit (fun hn V2 b bv q hV2 hB2 hc2 q0 q1=>ih (gs ts k).sub (by omega) (hgk.2 hn) _ b bv q V2 q0 q1 ((hu.keep hV).keep hV2) hB2 hc2)
end Go.Proofs.YtmmlkfkpblokiaaGreatDoor
