import Derived.Test.YtmmlkfkpblokiaaGreatDoorQdKyw
import Derived.Test.YtmmlkfkpblokiaaGreatDoorQdXdv
import Derived.Test.YtmmlkfkpblokiaaGreatDoorQdUb
namespace Go.Proofs.YtmmlkfkpblokiaaGreatDoor
set_option maxRecDepth 100000
open Go Go.RowKit Go.Sort
attribute [local go_sem] setCell_drewN alloc_drewN
def PaS (W:World) (S:Nat→Prop) (base:Nat) (v:Value) (xs:List VR) (ps:List VT):Prop:=
 W.ownsRow base 27 3 v ps.length (vrs xs)∧xs.length=ps.length∧∀i,i<ps.length→VtO W (fun b=>S b∧v.ownBlock≠some b) (gx xs i) (gvt ps i)
theorem pas_nil (W:World) (S:Nat→Prop) (base:Nat):PaS W S base (.slice none 0 0) [] []:=⟨⟨rfl,.inl ⟨rfl,rfl⟩⟩,rfl,fun i hi=>by simp at hi⟩
theorem PaS.keep {W V:World} {S:Nat→Prop} {base:Nat} {v:Value} {xs:List VR} {ps:List VT} (h:PaS W S base v xs ps) (hb:Below W.heap.size W V):PaS V S base v xs ps:=
 ⟨own_keep_row h.1 hb,h.2.1,fun i hi=>(h.2.2 i hi).blw hb⟩
theorem PaS.snoc {W W':World} {S:Nat→Prop} {base:Nat} {v v':Value} {xs:List VR} {ps:List VT} {x:VR} {X:VT} (h:PaS W S base v xs ps) (hx:VtO W (fun b=>S b∧v.ownBlock≠some b) x X)
 (ho:W'.ownsRow base 27 3 v' (ps.length+1) (vrs xs++(vrv x).toList)) (hg:W.grownBy W' v.ownBlock) (hk:Nx W v v'):PaS W' S base v' (xs++[x]) (ps++[X]):=by
 have hst:Sty W W' (fun b=>S b∧v.ownBlock≠some b) (fun b=>S b∧v'.ownBlock≠some b):=⟨hg.size,fun b hb hS=>⟨hg.block b hb (fun e=>hS.2 e.symm),hS.1,fun e=>by
  rcases hk with q|⟨k,q,q2⟩
  ·exact hS.2 (q.symm.trans e)
  ·rw[q] at e
   injection e with e
   omega⟩⟩
 have h21:=h.2.1
 refine⟨by rw[List.length_append,List.length_singleton,vrs_snoc];exact ho,by rw[List.length_append,List.length_append,h21];rfl,fun i hi=>?_⟩
 rw[List.length_append,List.length_singleton] at hi
 rcases Nat.lt_or_ge i ps.length with q|q
 ·rw[gx_lo (by omega),gvt_lo q]
  exact(h.2.2 i q).keep hst
 ·obtain rfl:i=ps.length:=by omega
  rw[gvt_hi,←h21,gx_hi]
  exact hx.keep hst
theorem PaS.oth {W:World} {S:Nat→Prop} {base:Nat} {v:Value} {xs:List VR} {ps:List VT} (h:PaS W S base v xs ps) (g:Nat) (cs:Array Value) (h1:¬S g) (h2:g<base):PaS (W.setRow g cs) S base v xs ps:=
 ⟨own_but h.1 (fun q hq=>setRow_other W g q cs (by have:=(own_high_row h.1 q hq).1;omega)),h.2.1,fun i hi=>(h.2.2 i hi).other g cs (fun b hb_=>⟨fun e=>h1 (e▸hb_.1),hb_⟩)⟩
theorem PaS.paw {W:World} {S:Nat→Prop} {lo base:Nat} {v:Value} {xs:List VR} {ps:List VT} (h:PaS W S base v xs ps) (hS:∀b,S b→lo≤b):PaW W lo base v xs ps:=
 ⟨h.1,h.2.1,fun i hi=>(h.2.2 i hi).wid (fun b hb_=>⟨hS b hb_.1,hb_.2⟩)⟩
set_option maxRecDepth 100000 in
set_option maxHeartbeats 16000000 in
theorem r_decodeN {sv:Value} {ts:List Slt} (d:List B) (bv:Value) (from_:Int) (hf0:0≤from_) (hf1:from_+(d.length:Int)≤1152921504606846976) (w:World) (h:Slo w sv ts) (hB:BysB w bv d) (hcap:∀a l c,bv=.slice a l c→l≤c)
 (hV:∀k,k<ts.length→∀(u:Value) (P:Nat→Prop) (f:Fd) (da:Option Addr) (dc:Nat) (at_:Int) (V:World),Slo w u (gs ts k).sub→Below w.heap.size w V→Fdk V P f da dc at_→f.ty=wtA (gs ts k).kind→fits f→
  Calls Tryz.prog 63 #[.agg (slr (gs ts k) u),.agg #[.int .i64 f.no,.int .i64 f.ty,.int .u64 (f.num:Int),.slice da f.dat.length dc],.int .i64 at_,.int .i64 (at_+((fby f).length:Int)-(f.dat.length:Int))] V (VaQ V (fun b=>P b∨V.heap.size≤b) (rdT utD flD (gs ts k) f at_) (vlS (gs ts k) f))):
 Calls Tryz.prog 39 #[sv,bv,.int .i64 from_] w (VaQ w (fun b=>w.heap.size≤b) (deT utD flD ts d from_) (mgT ts d)):=by
 cases h with
 |mk ao cap ts us_ hl hc hnn h hs=>
  have R60:=hp2_0 w (.cells #[.int .u64 0,.slice none 0 0,.slice none 0 0] 27) (.cells #[.int .i64 0,.int .i64 0,.int .i64 0] 41);have R70:=hp2_1 w (.cells #[.int .u64 0,.slice none 0 0,.slice none 0 0] 27) (.cells #[.int .i64 0,.int .i64 0,.int .i64 0] 41)
  have hb0:Below w.heap.size w ((w.alloc (.cells #[.int .u64 0,.slice none 0 0,.slice none 0 0] 27)).alloc (.cells #[.int .i64 0,.int .i64 0,.int .i64 0] 41)):=((Below.refl _ _).alloc (Nat.le_refl _) _).alloc (by simp) _
  have cDe:=hide (r_decode d ((w.alloc (.cells #[.int .u64 0,.slice none 0 0,.slice none 0 0] 27)).alloc (.cells #[.int .i64 0,.int .i64 0,.int .i64 0] 41)) bv (hB.keep hb0) hcap);unfold mgT;obtain⟨R,hR0⟩:∃R,deT utD flD ts d from_=R:=⟨_,rfl⟩;have hR:=hide hR0;replace hb0:=hide hb0;replace R60:=hide R60;replace R70:=hide R70;clear hB hcap
  go_enter Tryz.func39,Tryz.ntmps39
  go_upto_region 1 with(fail)
  generalize ((w.alloc (.cells #[.int .u64 0,.slice none 0 0,.slice none 0 0] 27)).alloc (.cells #[.int .i64 0,.int .i64 0,.int .i64 0] 41))=w0 at *
  go_wp2_with (fail)
  refine cDe.out.mono ?_;rintro e_ y ⟨fv,us,rfl,hFt,hb1⟩;have R6y:=hide (keep hb1 R60.out);have R7y:=hide (keep hb1 R70.out);have l7y:=lt_of_row R7y.out;have l70:=lt_of_row R70.out;have lzy:=hb1.size;have hw0:=hide (Below.after hb0.out hb1);clear cDe R60 R70 hb1 hb0
  by_cases hde:der (dwh d)=0
  ·have hfok:=dfs_oks d
   have hf64:=dfs_len d hde
   have hee:=eer_ok.1 (dec_enc hde).1
   have hkn:∀i,i<(dfs (dwh d)).length→_:=fun i hi=>ech_all _ 0 (by decide) hee.2.1 _ (gf_mem hi)
   have hebs:=hee.2.2
   have hebd:(ebs (dfs (dwh d))).length=d.length:=by
    have q:=(dec_enc hde).2;rw[eout,if_pos (dec_enc hde).1] at q;rw[q]
   have eR:R=dcT utD flD (ts.drop 0) ((dfs (dwh d)).drop 0) (from_+((ebs ((dfs (dwh d)).take 0)).length:Int)):=by rw[←hR0,deT,decN,if_neg (by omega)];simp[ebs]
   rw[hde];clear hR0 hee hde
   generalize hfs:dfs (dwh d)=fs at *
   replace hfs:=hide hfs
   generalize dpl (dwh d)=pl at *
   obtain⟨fo,fcap,rfl⟩:∃fo fcap,fv=.slice fo fs.length fcap:=by
    obtain⟨_,⟨rfl,h0⟩|⟨g,cap,cur,rfl,_⟩⟩:=hFt.1
    ·exact⟨none,0,by rw[h0]⟩
    ·exact⟨_,_,rfl⟩
   replace hFt:=hide hFt;replace eR:=hide eR;have RVb0:=hide (hp1_0 y (.cells #[.int .u64 0,.slice none 0 0,.slice none 0 0] 27));have hby0:Hid (Below y.heap.size y (y.alloc (.cells #[.int .u64 0,.slice none 0 0,.slice none 0 0] 27))):=hide ((Below.refl _ _).alloc (Nat.le_refl _) _)
   go_wp2_with (fail)
   generalize y.alloc (.cells #[.int .u64 0,.slice none 0 0,.slice none 0 0] 27)=yb at *
   go_loopw [13,12,14,15,16] (fun i at_ _ _ _ wr=>∃(k:Nat) (pv:Value) (xs:List VR),k≤ts.length∧k≤fs.length∧i=.int .i64 k∧at_=.int .i64 (from_+((ebs (fs.take k)).length:Int))∧R=dcT utD flD (ts.drop k) (fs.drop k) (from_+((ebs (fs.take k)).length:Int))∧wr.heap[y.heap.size]? =some (.cells #[.int .u64 0,.slice none 0 0,pv] 27 (0,0))∧PaS wr (fun b=>w0.heap.size≤b∧b≠y.heap.size) (y.heap.size+1) pv xs (vlT (ts.take k) (fs.take k))∧Below y.heap.size y wr) (fun i _ _ _ _ _=>ts.length-(intOf i).toNat)
   case atStart=>exact⟨0,_,[],by omega,by omega,rfl,by simp[ebs],eR.out,RVb0.out,by rw[List.take_zero,List.take_zero,vlT_nil];exact pas_nil _ _ _,hby0.out⟩
   case round=>
    clear eR RVb0 hby0;obtain⟨k,pv,xs,hk,hkl,rfl,rfl,eR,RVb,hP,hby⟩:=hrel
    have hlk:=hide (show(vlT (ts.take k) (fs.take k)).length=k by rw[vlT_len _ _ (by rw[List.length_take,List.length_take];omega),List.length_take];omega)
    obtain⟨pva,pvc,rfl⟩:∃a c,pv=.slice a k c:=by
     have:=hP.1;rw[hlk.out] at this;exact own_slice this
    by_cases hlt:k<ts.length
    ·have hdk:decide ((k:Int)<(ts.length:Int))=true:=by simp;omega
     obtain⟨b,off,rfl,hbl,hra,hsok⟩:=h k hlt
     have hsl:=hs k hlt;obtain⟨so,sc,hsu⟩:=hsl.form;rw[hsu] at hra hsl;generalize hsn:(gs ts k).sub.length=sn at hra hsl hsu;clear hsn;have szwr:=hby.size;have lw6:=lt_of_row R7y.out;have hsz0:=hw0.out.size
     have R6r:=hide ((hby.block (w.heap.size) (by omega)).trans R6y.out)
     have R7r:=hide ((hby.block (w.heap.size+1) (by omega)).trans R7y.out)
     have hWr:=hide (hw0.out.trans (hby.mono (by omega)))
     have hbr:=Below.refl wr.heap.size wr
     by_cases hkf:k=fs.length
     ·rw[dcT_short utD flD hlt hkf.symm] at eR
      subst hkf
      rw[List.take_length] at eR⊢
      replace eR:=hide eR
      generalize from_+((ebs fs).length:Int)=at_ at *
      have R6:=R6r.out;have R7:=R7r.out;have hW:=hWr.out;clear hP RVb hby hra hsok h hs hV
      have oneA:(#[Value.int .u64 0,.slice none 0 0,.slice none 0 0]:Array Value).all (·.oneCell')=true:=by simp[Value.oneCell']
      have oneB:(#[Value.int .i64 0,.int .i64 at_,.int .i64 81]:Array Value).all (·.oneCell')=true:=by simp[Value.oneCell']
      have cA:=hide (r_at (at_) (81) wr);replace hW:=hide hW;replace R6:=hide R6;replace R7:=hide R7
      go_wp2_with (first|(refine wpList_build_want rfl 27 _ rfl [] rfl #[.int .u64 0,.slice none 0 0,.slice none 0 0] builtZvR ?_)|fail)
      refine cA.out.mono ?_;rintro e_ x2 ⟨rfl,hb2⟩;replace R6:=keep hb2 R6.out;replace R7:=keep hb2 R7.out;replace hW:=Below.after hW.out hb2;clear hb2 cA
      go_wp2_with (first|(refine wpList_store_row rfl 27 _ _ rfl (w.heap.size) #[.int .u64 0,.slice none 0 0,.slice none 0 0] rfl rfl 27 _ R6 infoV rfl oneA ?_)|(refine wpList_store_row rfl 41 _ _ rfl (w.heap.size+1) #[.int .i64 0,.int .i64 at_,.int .i64 81] rfl rfl 41 _ ((setRow_other x2 (w.heap.size) (w.heap.size+1) #[.int .u64 0,.slice none 0 0,.slice none 0 0] (by omega)).trans R7) infoFt rfl oneB ?_)|fail)
      replace R7:=(setRow_other x2 (w.heap.size) (w.heap.size+1) #[.int .u64 0,.slice none 0 0,.slice none 0 0] (by omega)).trans R7
      replace R6:=setRow_heap x2 (w.heap.size) _ (#[.int .u64 0,.slice none 0 0,.slice none 0 0]) _ _ R6
      replace hW:=below_setRow hW (show w.heap.size≤w.heap.size by omega) #[.int .u64 0,.slice none 0 0,.slice none 0 0]
      generalize x2.setRow (w.heap.size) #[.int .u64 0,.slice none 0 0,.slice none 0 0]=x3 at *
      replace R6:=(setRow_other x3 (w.heap.size+1) (w.heap.size) #[.int .i64 0,.int .i64 at_,.int .i64 81] (by omega)).trans R6
      replace R7:=setRow_heap x3 (w.heap.size+1) _ (#[.int .i64 0,.int .i64 at_,.int .i64 81]) _ _ R7
      replace hW:=below_setRow hW (show w.heap.size≤w.heap.size+1 by omega) #[.int .i64 0,.int .i64 at_,.int .i64 81]
      exact bodyPost_ret (v:=.tuple #[.agg #[.int .u64 0,.slice none 0 0,.slice none 0 0],.agg #[.int .i64 0,.int .i64 at_,.int .i64 81]]) (results_cell_cell Tryz.results39 _ _ (w.heap.size) (w.heap.size+1) _ _ _ _ _ _ _ _ rfl R6 Tryz.underlying27 rfl infoV rfl R7 Tryz.underlying41 rfl infoFt) rfl (by unfold VaQ;rw[hR.out,eR.out];exact⟨rfl,hW⟩)
     ·have hkf2:k<fs.length:=by omega
      have hge:decide ((k:Int)≥(fs.length:Int))=false:=by simp;omega
      have hge2:¬((fs.length:Int)≤(k:Int)):=by omega
      rw[dcT_step utD flD hlt hkf2] at eR;obtain⟨fb,fcap2,efv,hfb1,hfb2,hfrow⟩:=(hFt.out).at hkf2
      cases efv
      obtain⟨hk0,hk1,hk2,hfit⟩:=hkn k hkf2;have hfo:=hfok k hkf2
      have hsum:(ebs fs).length=(ebs (fs.take k)).length+(ebs (fs.drop k)).length:=by
       have e:=ebs_split fs k;rw[←List.length_append,←e]
      have hsum1:(ebs fs).length=(ebs (fs.take (k+1))).length+(ebs (fs.drop (k+1))).length:=by
       have e:=ebs_split fs (k+1);rw[←List.length_append,←e]
      have htk:=ebs_take fs k hkf2
      have hEN:from_+((ebs (fs.take k)).length:Int)+((fby (gf fs k)).length:Int)=from_+((ebs (fs.take (k+1))).length:Int):=by rw[htk];omega
      have hfbl:(fby (gf fs k)).length≤4194304:=by omega
      have hdl4:(gf fs k).dat.length≤4194304:=by
       by_cases ht:(gf fs k).ty=2
       ·have:=fby_dat ht;omega
       ·have hfit2:=hfit
        unfold fits at hfit2
        rw[if_neg ht] at hfit2;rw[hfit2.1]
        simp
      have hOw:=hFt.out.2.2.1 k (by rw[hFt.out.2.1];exact hkf2)
      obtain⟨fda,fdc,hus,hBd,hblk⟩:=own_told hOw hdl4;rw[hus] at hOw
      have hat0:0≤from_+((ebs (fs.take k)).length:Int)∧from_+((ebs (fs.take k)).length:Int)≤1152921504606846976:=by omega
      have hat2:0≤from_+((ebs (fs.take (k+1))).length:Int)∧from_+((ebs (fs.take (k+1))).length:Int)≤1152921504606846976:=by omega
      have hFk:Fdk y (fun b=>w0.heap.size≤b∧b<y.heap.size) (gf fs k) fda fdc (from_+((ebs (fs.take k)).length:Int)):=⟨hBd,own_capT hOw,fun a e=>⟨⟨(hblk a e).2,(hblk a e).1⟩,(hblk a e).1⟩,hfo,hk0,hk1,hk2,hfbl,hat0.1,by omega,own_down_row hOw (Nat.zero_le _),fun k_ q=>own_high_row hOw k_ q⟩
      have hvk:=hide (vlT_take ts fs k hlt hkf2)
      have cW_:=hide (fun V=>r_wide (gf fs k) fda fdc hfo hk0 hk1 hk2 V)
      have cT:=hide (show Gives 54 #[.int .i64 (gs ts k).kind] (.int .i64 (wtA (gs ts k).kind)) from r_typeOf _)
      have hsw:=rangeS_keep2 (rangeS_keep2 hra hw0.out hbl) hby (by omega)
      have hfw_:=rangeS_keep2 hfrow hby hfb2
      have cVl0:=fun V (hV2:Below wr.heap.size wr V) (hty:(gf fs k).ty=wtA (gs ts k).kind)=>hV k hlt (.slice so sn sc) (fun b=>w0.heap.size≤b∧b<y.heap.size) (gf fs k) fda fdc (from_+((ebs (fs.take k)).length:Int)) V hsl (hw0.out.trans ((Below.after hby hV2).mono (by omega))) (hFk.keep (Below.after hby hV2)) hty hfit
      obtain⟨Fk,hFk0⟩:∃Fk,rdT utD flD (gs ts k) (gf fs k) (from_+((ebs (fs.take k)).length:Int))=Fk:=⟨_,rfl⟩
      have hfwk:∀x,Fk=some x→x.why≠0:=fun x e=>rd_why (hFk0.trans e)
      rw[hFk0] at cVl0
      have eD:dsT utD flD (gs ts k) (gf fs k) (from_+((ebs (fs.take k)).length:Int))=if(gf fs k).no≠(gs ts k).no then some ⟨0,from_+((ebs (fs.take k)).length:Int),81⟩ else if(gf fs k).ty≠wtA (gs ts k).kind then some ⟨0,from_+((ebs (fs.take k)).length:Int),82⟩ else Fk:=by rw[←hFk0];rfl
      rw[eD] at eR;clear eD hFk0;rw[hEN] at eR;rw[hus] at hfw_;unfold srow at hsw;unfold frow at hfw_;unfold slr at cVl0
      have eDl:from_+((ebs (fs.take k)).length:Int)+((fby (gf fs k)).length:Int)-((gf fs k).dat.length:Int)=from_+((ebs (fs.take (k+1))).length:Int)-((gf fs k).dat.length:Int):=by rw[hEN]
      rw[eDl] at cVl0;have hfl3:(gf fs k).dat.length≤4194304:=hdl4
      have hdlE:Hid (((gf fs k).dat.length:Int)≤from_+((ebs (fs.take (k+1))).length:Int)+4194304):=hide (by omega)
      clear eDl hra hfrow hsok hsl hsu hus h hs hV hk0 hk1 hk2 hfo hfit hfok hkn hOw hBd hblk hFk hsum hsum1 htk hfbl hdl4
      generalize hat1g:from_+((ebs (fs.take (k+1))).length:Int)=EN at *
      have hat1:Hid (from_+((ebs (fs.take (k+1))).length:Int)=EN):=hide hat1g;clear hat1g
      generalize from_+((ebs (fs.take k)).length:Int)=at_ at *
      generalize ((fby (gf fs k)).length:Int)=FLN at *
      replace hEN:=hide hEN
      generalize vlS (gs ts k) (gf fs k)=X at *
      generalize (gf fs k).no=fno at *
      generalize (gf fs k).ty=fty at *
      generalize (gf fs k).num=fnum at *
      generalize (gf fs k).dat.length=fdl at *
      generalize wtA (gs ts k).kind=wk at *
      generalize (gs ts k).no=no at *
      generalize (gs ts k).kind=kd at *
      generalize ((gs ts k).least:Int)=l at *
      generalize ((gs ts k).most:Int)=mo at *
      have HS:(fun W:World=>W.rangeAt b (off+k*5) [.int .i64 no,.int .i64 kd,.int .u64 l,.int .u64 mo,.slice so sn sc]∧W.rangeAt fb (k*4) [.int .i64 fno,.int .i64 fty,.int .u64 (fnum:Int),.slice fda fdl fdc]) wr:=⟨hsw,hfw_⟩
      have hbs:b<wr.heap.size:=by omega
      have hfbs:fb<wr.heap.size:=by omega
      have hpor:=own_high_row hP.1;have RVbr:=hide RVb;have lVb:=lt_of_row RVb;have hPr:=hide hP;clear hsw hfw_ RVb hP;replace hby:=hide hby
      go_upto_region 11 with(fail)
      have hi9:0≤(k:Int)∧(k:Int)<(fs.length:Int):=by omega
      have hi8:0≤(k:Int)∧(k:Int)<(ts.length:Int):=by omega
      by_cases hno:fno=no
      ·rw[if_neg (fun q=>q hno)] at eR
       have bn1:(fno !=no)=false:=by simpa using hno
       have bn2:(fno==no)=true:=by simpa using hno
       replace hno:=hide hno;have hbd:Below wr.heap.size wr wr.drew:=below_drN (Below.refl _ _) 1
       have HS':(fun W:World=>W.rangeAt b (off+k*5) [.int .i64 no,.int .i64 kd,.int .u64 l,.int .u64 mo,.slice so sn sc]∧W.rangeAt fb (k*4) [.int .i64 fno,.int .i64 fty,.int .u64 (fnum:Int),.slice fda fdl fdc]) _:=⟨rangeS_keep2 HS.1 hbd (by have:=hbr.size;omega),rangeS_keep2 HS.2 hbd (by have:=hbr.size;omega)⟩
       replace HS:=HS';clear HS';replace hbr:=Below.after hbr hbd;clear hbd
       refine wp_region_held (S:=fun W:World=>W.rangeAt b (off+k*5) [.int .i64 no,.int .i64 kd,.int .u64 l,.int .u64 mo,.slice so sn sc]∧W.rangeAt fb (k*4) [.int .i64 fno,.int .i64 fty,.int .u64 (fnum:Int),.slice fda fdl fdc]) (by kernel_rfl) ?_
       change wpAnyH _ _ _ _ _ _ _ _ (World.drew _)
       generalize wr.drew=a1 at *
       refine wpAnyH_take (i:=0) (v:=?v74) rfl (by kernel_rfl) (by kernel_rfl) (by kernel_rfl) (fun _ _ _ h=>h) (Or.inl ⟨by rfl,?y74⟩) HS ?r74
       case y74=>
        intro w_ hS_;go_simp
        try with_reducible rfl
       simp only[Act.put,List.getElem_toArray,List.getElem_cons_zero,List.setIfInBounds_toArray,List.set_cons_succ,List.set_cons_zero]
       refine wpAnyH_take (i:=1) (v:=?v75) rfl (by kernel_rfl) (by kernel_rfl) (by kernel_rfl) (fun _ _ _ h=>h) (Or.inl ⟨by rfl,?y75⟩) HS ?r75
       case y75=>
        intro w_ hS_;go_simp
        try with_reducible rfl
       simp only[Act.put,List.getElem_toArray,List.getElem_cons_succ,List.getElem_cons_zero,List.setIfInBounds_toArray,List.set_cons_succ,List.set_cons_zero]
       refine wpAnyH_take (i:=2) (v:=?v76) rfl (by kernel_rfl) (by kernel_rfl) (by kernel_rfl) (fun _ _ _ h=>h) (Or.inl ⟨by rfl,?y76⟩) HS ?r76
       case y76=>
        intro w_ hS_;go_simp
        try with_reducible rfl
       simp only[Act.put,List.getElem_toArray,List.getElem_cons_succ,List.getElem_cons_zero,List.setIfInBounds_toArray,List.set_cons_succ,List.set_cons_zero]
       refine wpAnyH_take (i:=3) (v:=?v77) rfl (by kernel_rfl) (by kernel_rfl) (by kernel_rfl) (fun _ _ _ h=>h) (Or.inl ⟨by rfl,?y77⟩) HS ?r77
       case y77=>
        intro w_ hS_;go_simp
        try with_reducible rfl
       simp only[Act.put,List.getElem_toArray,List.getElem_cons_succ,List.getElem_cons_zero,List.setIfInBounds_toArray,List.set_cons_succ,List.set_cons_zero]
       refine wpAnyH_take (i:=4) (v:=.int .i64 fno) rfl (by kernel_rfl) (by kernel_rfl) (by kernel_rfl) (fun _ _ _ h=>h) (Or.inl ⟨by rfl,?y78⟩) HS ?r78
       case y78=>
        intro w_ hS_;have c_:w_.cell? ⟨fb,k*4,none⟩=some (.int .i64 fno):=hS_.2 0 _ rfl;go_simp
        try with_reducible rfl
       simp only[Act.put,List.getElem_toArray,List.getElem_cons_succ,List.getElem_cons_zero,List.setIfInBounds_toArray,List.set_cons_succ,List.set_cons_zero]
       refine wpAnyH_take (i:=5) (v:=?v79) rfl (by kernel_rfl) (by kernel_rfl) (by kernel_rfl) (fun _ _ _ h=>h) (Or.inl ⟨by rfl,?y79⟩) HS ?r79
       case y79=>
        intro w_ hS_;go_simp
        try with_reducible rfl
       simp only[Act.put,List.getElem_toArray,List.getElem_cons_succ,List.getElem_cons_zero,List.setIfInBounds_toArray,List.set_cons_succ,List.set_cons_zero]
       refine wpAnyH_take (i:=6) (v:=?v80) rfl (by kernel_rfl) (by kernel_rfl) (by kernel_rfl) (fun _ _ _ h=>h) (Or.inl ⟨by rfl,?y80⟩) HS ?r80
       case y80=>
        intro w_ hS_;go_simp
        try with_reducible rfl
       simp only[Act.put,List.getElem_toArray,List.getElem_cons_succ,List.getElem_cons_zero,List.setIfInBounds_toArray,List.set_cons_succ,List.set_cons_zero]
       refine wpAnyH_take (i:=7) (v:=?v81) rfl (by kernel_rfl) (by kernel_rfl) (by kernel_rfl) (fun _ _ _ h=>h) (Or.inl ⟨by rfl,?y81⟩) HS ?r81
       case y81=>
        intro w_ hS_;go_simp
        try with_reducible rfl
       simp only[Act.put,List.getElem_toArray,List.getElem_cons_succ,List.getElem_cons_zero,List.setIfInBounds_toArray,List.set_cons_succ,List.set_cons_zero]
       refine wpAnyH_take (i:=8) (v:=?v82) rfl (by kernel_rfl) (by kernel_rfl) (by kernel_rfl) (fun _ _ _ h=>h) (Or.inl ⟨by rfl,?y82⟩) HS ?r82
       case y82=>
        intro w_ hS_;go_simp
        try with_reducible rfl
       simp only[Act.put,List.getElem_toArray,List.getElem_cons_succ,List.getElem_cons_zero,List.setIfInBounds_toArray,List.set_cons_succ,List.set_cons_zero]
       refine wpAnyH_take (i:=9) (v:=.int .i64 no) rfl (by kernel_rfl) (by kernel_rfl) (by kernel_rfl) (fun _ _ _ h=>h) (Or.inl ⟨by rfl,?y83⟩) HS ?r83
       case y83=>
        intro w_ hS_;have c_:w_.cell? ⟨b,off+k*5,none⟩=some (.int .i64 no):=hS_.1 0 _ rfl;go_simp
        try with_reducible rfl
       simp only[Act.put,List.getElem_toArray,List.getElem_cons_succ,List.getElem_cons_zero,List.setIfInBounds_toArray,List.set_cons_succ,List.set_cons_zero]
       refine wpAnyH_take (i:=10) (v:=.bool false) rfl (by kernel_rfl) (by kernel_rfl) (by kernel_rfl) (fun _ _ _ h=>h) (Or.inl ⟨by rfl,?y84⟩) HS ?r84
       case y84=>
        intro w_ hS_;go_simp
        try with_reducible rfl
       simp only[Act.put,List.getElem_toArray,List.getElem_cons_succ,List.getElem_cons_zero,List.setIfInBounds_toArray,List.set_cons_succ,List.set_cons_zero]
       refine wpAnyH_done (by kernel_rfl) ?_ _
       go_upto_region 13 with(fail)
       by_cases hty:fty=wk
       ·rw[if_neg (fun q=>q hty)] at eR
        have bt1:(fty !=wk)=false:=by simpa using hty
        have bt2:(fty==wk)=true:=by simpa using hty
        have cVl:=hide (fun V hV2=>cVl0 V hV2 hty)
        have eR2:=hide eR;replace hty:=hide hty;clear cVl0 eR;have hbd:Below a1.heap.size a1 a1.drew:=below_drN (Below.refl _ _) 1
        have HS':(fun W:World=>W.rangeAt b (off+k*5) [.int .i64 no,.int .i64 kd,.int .u64 l,.int .u64 mo,.slice so sn sc]∧W.rangeAt fb (k*4) [.int .i64 fno,.int .i64 fty,.int .u64 (fnum:Int),.slice fda fdl fdc]) _:=⟨rangeS_keep2 HS.1 hbd (by have:=hbr.size;omega),rangeS_keep2 HS.2 hbd (by have:=hbr.size;omega)⟩
        replace HS:=HS';clear HS';replace hbr:=Below.after hbr hbd;clear hbd
        refine wp_region_held (S:=fun W:World=>W.rangeAt b (off+k*5) [.int .i64 no,.int .i64 kd,.int .u64 l,.int .u64 mo,.slice so sn sc]∧W.rangeAt fb (k*4) [.int .i64 fno,.int .i64 fty,.int .u64 (fnum:Int),.slice fda fdl fdc]) (by kernel_rfl) ?_
        change wpAnyH _ _ _ _ _ _ _ _ (World.drew _)
        generalize a1.drew=a3 at *
        refine wpAnyH_take (i:=0) (v:=?vb85) rfl (by kernel_rfl) (by kernel_rfl) (by kernel_rfl) (fun _ _ _ h=>h) (Or.inl ⟨by rfl,?yb85⟩) HS ?rb85
        case yb85=>
         intro w_ hS_;go_simp
         try with_reducible rfl
        simp only[Act.put,List.getElem_toArray,List.getElem_cons_zero,List.setIfInBounds_toArray,List.set_cons_succ,List.set_cons_zero]
        refine wpAnyH_take (i:=1) (v:=?vb86) rfl (by kernel_rfl) (by kernel_rfl) (by kernel_rfl) (fun _ _ _ h=>h) (Or.inl ⟨by rfl,?yb86⟩) HS ?rb86
        case yb86=>
         intro w_ hS_;go_simp
         try with_reducible rfl
        simp only[Act.put,List.getElem_toArray,List.getElem_cons_succ,List.getElem_cons_zero,List.setIfInBounds_toArray,List.set_cons_succ,List.set_cons_zero]
        refine wpAnyH_take (i:=2) (v:=?vb87) rfl (by kernel_rfl) (by kernel_rfl) (by kernel_rfl) (fun _ _ _ h=>h) (Or.inl ⟨by rfl,?yb87⟩) HS ?rb87
        case yb87=>
         intro w_ hS_;go_simp
         try with_reducible rfl
        simp only[Act.put,List.getElem_toArray,List.getElem_cons_succ,List.getElem_cons_zero,List.setIfInBounds_toArray,List.set_cons_succ,List.set_cons_zero]
        refine wpAnyH_take (i:=3) (v:=?vb88) rfl (by kernel_rfl) (by kernel_rfl) (by kernel_rfl) (fun _ _ _ h=>h) (Or.inl ⟨by rfl,?yb88⟩) HS ?rb88
        case yb88=>
         intro w_ hS_;go_simp
         try with_reducible rfl
        simp only[Act.put,List.getElem_toArray,List.getElem_cons_succ,List.getElem_cons_zero,List.setIfInBounds_toArray,List.set_cons_succ,List.set_cons_zero]
        refine wpAnyH_take (i:=4) (v:=.int .i64 fty) rfl (by kernel_rfl) (by kernel_rfl) (by kernel_rfl) (fun _ _ _ h=>h) (Or.inl ⟨by rfl,?yb89⟩) HS ?rb89
        case yb89=>
         intro w_ hS_;have c_:w_.cell? ⟨fb,k*4+1,none⟩=some (.int .i64 fty):=hS_.2 1 _ rfl;go_simp
         try with_reducible rfl
        simp only[Act.put,List.getElem_toArray,List.getElem_cons_succ,List.getElem_cons_zero,List.setIfInBounds_toArray,List.set_cons_succ,List.set_cons_zero]
        refine wpAnyH_take (i:=5) (v:=?vb90) rfl (by kernel_rfl) (by kernel_rfl) (by kernel_rfl) (fun _ _ _ h=>h) (Or.inl ⟨by rfl,?yb90⟩) HS ?rb90
        case yb90=>
         intro w_ hS_;go_simp
         try with_reducible rfl
        simp only[Act.put,List.getElem_toArray,List.getElem_cons_succ,List.getElem_cons_zero,List.setIfInBounds_toArray,List.set_cons_succ,List.set_cons_zero]
        refine wpAnyH_take (i:=6) (v:=?vb91) rfl (by kernel_rfl) (by kernel_rfl) (by kernel_rfl) (fun _ _ _ h=>h) (Or.inl ⟨by rfl,?yb91⟩) HS ?rb91
        case yb91=>
         intro w_ hS_;go_simp
         try with_reducible rfl
        simp only[Act.put,List.getElem_toArray,List.getElem_cons_succ,List.getElem_cons_zero,List.setIfInBounds_toArray,List.set_cons_succ,List.set_cons_zero]
        refine wpAnyH_take (i:=7) (v:=?vb92) rfl (by kernel_rfl) (by kernel_rfl) (by kernel_rfl) (fun _ _ _ h=>h) (Or.inl ⟨by rfl,?yb92⟩) HS ?rb92
        case yb92=>
         intro w_ hS_;go_simp
         try with_reducible rfl
        simp only[Act.put,List.getElem_toArray,List.getElem_cons_succ,List.getElem_cons_zero,List.setIfInBounds_toArray,List.set_cons_succ,List.set_cons_zero]
        refine wpAnyH_take (i:=8) (v:=?vb93) rfl (by kernel_rfl) (by kernel_rfl) (by kernel_rfl) (fun _ _ _ h=>h) (Or.inl ⟨by rfl,?yb93⟩) HS ?rb93
        case yb93=>
         intro w_ hS_;go_simp
         try with_reducible rfl
        simp only[Act.put,List.getElem_toArray,List.getElem_cons_succ,List.getElem_cons_zero,List.setIfInBounds_toArray,List.set_cons_succ,List.set_cons_zero]
        refine wpAnyH_take (i:=9) (v:=.int .i64 kd) rfl (by kernel_rfl) (by kernel_rfl) (by kernel_rfl) (fun _ _ _ h=>h) (Or.inl ⟨by rfl,?yb94⟩) HS ?rb94
        case yb94=>
         intro w_ hS_;have c_:w_.cell? ⟨b,off+k*5+1,none⟩=some (.int .i64 kd):=hS_.1 1 _ rfl;go_simp
         try with_reducible rfl
        simp only[Act.put,List.getElem_toArray,List.getElem_cons_succ,List.getElem_cons_zero,List.setIfInBounds_toArray,List.set_cons_succ,List.set_cons_zero]
        refine wpAnyH_one (k:=10) (fuel:=1) (by kernel_rfl) rfl (by kernel_rfl) (fun K_ hK=>?_)
        refine wp_call_ex (f:=54) (R:=fun u w'=>u=.int .i64 wk∧Below a3.heap.size a3 w') (by kernel_rfl) ((cT.out a3).mono fun _ _ h=>⟨_,h.1,rfl,h.2⟩) (fun v_ a4 hX_=>?_)
        obtain⟨rfl,hb_⟩:=hX_
        have HS':(fun W:World=>W.rangeAt b (off+k*5) [.int .i64 no,.int .i64 kd,.int .u64 l,.int .u64 mo,.slice so sn sc]∧W.rangeAt fb (k*4) [.int .i64 fno,.int .i64 fty,.int .u64 (fnum:Int),.slice fda fdl fdc]) _:=⟨rangeS_keep2 HS.1 hb_ (by have:=hbr.size;omega),rangeS_keep2 HS.2 hb_ (by have:=hbr.size;omega)⟩
        replace HS:=HS';clear HS';replace hbr:=Below.after hbr hb_;clear hb_;refine hK _ _ HS ?_;simp only[Act.put,List.getElem_toArray,List.getElem_cons_succ,List.getElem_cons_zero,List.setIfInBounds_toArray,List.set_cons_succ,List.set_cons_zero];clear hK
        refine wpAnyH_take (i:=11) (v:=.bool false) rfl (by kernel_rfl) (by kernel_rfl) (by kernel_rfl) (fun _ _ _ h=>h) (Or.inl ⟨by rfl,?yb95⟩) HS ?rb95
        case yb95=>
         intro w_ hS_;go_simp
         try with_reducible rfl
        simp only[Act.put,List.getElem_toArray,List.getElem_cons_succ,List.getElem_cons_zero,List.setIfInBounds_toArray,List.set_cons_succ,List.set_cons_zero]
        refine wpAnyH_done (by kernel_rfl) ?_ _
        have qb:0≤at_+FLN∧at_+FLN≤1152921504606846976:=by rw[hEN.out];exact hat2
        go_wp2_with (first|(refine wpList_load_mid rfl 118 _ rfl fb (k*4) rfl _ _ HS.2 Tryz.underlying118 rfl infoFi ?_)|fail)
        refine(cW_.out a4).mono ?_;rintro e_ a5 ⟨_,rfl,rfl,hb_⟩
        have HS':(fun W:World=>W.rangeAt b (off+k*5) [.int .i64 no,.int .i64 kd,.int .u64 l,.int .u64 mo,.slice so sn sc]∧W.rangeAt fb (k*4) [.int .i64 fno,.int .i64 fty,.int .u64 (fnum:Int),.slice fda fdl fdc]) _:=⟨rangeS_keep2 HS.1 hb_ (by have:=hbr.size;omega),rangeS_keep2 HS.2 hb_ (by have:=hbr.size;omega)⟩
        replace HS:=HS';clear HS';replace hbr:=Below.after hbr hb_;clear hb_ cW_
        have q16:IntKind.wrap .i64 (EN-(fdl:Int))=EN-(fdl:Int):=by rw[IntKind.wrap_i64];omega
        have qEN:Hid (at_+FLN=EN):=hEN
        cases Fk with
        |some fl_=>
         have eR:Hid (R=some fl_):=hide eR2.out;obtain⟨fl,fa,fw⟩:=fl_;have hfw:fw≠0:=hfwk _ rfl
         have cV:=hide (fun V (hV:Below wr.heap.size wr V)=>(cVl.out V hV).mono (fun e w' h=>(by obtain⟨h1,h2⟩:=h;exact⟨_,h1,rfl,h2⟩:∃v,e=.returned v∧v=.tuple #[.agg #[.int .u64 0,.slice none 0 0,.slice none 0 0],.agg #[.int .i64 fl,.int .i64 fa,.int .i64 fw]]∧Below V.heap.size V w')))
         have oneA:(#[Value.int .u64 0,.slice none 0 0,.slice none 0 0]:Array Value).all (·.oneCell')=true:=by simp[Value.oneCell']
         have oneB:(#[Value.int .i64 fl,.int .i64 fa,.int .i64 fw]:Array Value).all (·.oneCell')=true:=by simp[Value.oneCell']
         have bE:(fw !=0)=true:=by simpa using hfw
         have bE2:(fw==0)=false:=by simpa using hfw
         clear cVl eR2
         go_upto_region 16 with(fail)
         rw[qEN.out];have hbd:Below a5.heap.size a5 a5.drew:=below_drN (Below.refl _ _) 1
         have HS':(fun W:World=>W.rangeAt b (off+k*5) [.int .i64 no,.int .i64 kd,.int .u64 l,.int .u64 mo,.slice so sn sc]∧W.rangeAt fb (k*4) [.int .i64 fno,.int .i64 fty,.int .u64 (fnum:Int),.slice fda fdl fdc]) _:=⟨rangeS_keep2 HS.1 hbd (by have:=hbr.size;omega),rangeS_keep2 HS.2 hbd (by have:=hbr.size;omega)⟩
         replace HS:=HS';clear HS';replace hbr:=Below.after hbr hbd;clear hbd
         refine wp_region_held (S:=fun W:World=>W.rangeAt b (off+k*5) [.int .i64 no,.int .i64 kd,.int .u64 l,.int .u64 mo,.slice so sn sc]∧W.rangeAt fb (k*4) [.int .i64 fno,.int .i64 fty,.int .u64 (fnum:Int),.slice fda fdl fdc]) (by kernel_rfl) ?_
         change wpAnyH _ _ _ _ _ _ _ _ (World.drew _)
         generalize a5.drew=a6 at *
         refine wpAnyH_take (i:=0) (v:=?v8) rfl (by kernel_rfl) (by kernel_rfl) (by kernel_rfl) (fun _ _ _ h=>h) (Or.inl ⟨by rfl,?y8⟩) HS ?r8
         case y8=>
          intro w_ hS_;go_simp
          try with_reducible rfl
         simp only[Act.put,List.getElem_toArray,List.getElem_cons_zero,List.setIfInBounds_toArray,List.set_cons_succ,List.set_cons_zero]
         refine wpAnyH_take (i:=1) (v:=?v9) rfl (by kernel_rfl) (by kernel_rfl) (by kernel_rfl) (fun _ _ _ h=>h) (Or.inl ⟨by rfl,?y9⟩) HS ?r9
         case y9=>
          intro w_ hS_;go_simp
          try with_reducible rfl
         simp only[Act.put,List.getElem_toArray,List.getElem_cons_succ,List.getElem_cons_zero,List.setIfInBounds_toArray,List.set_cons_succ,List.set_cons_zero]
         refine wpAnyH_take (i:=2) (v:=?v10) rfl (by kernel_rfl) (by kernel_rfl) (by kernel_rfl) (fun _ _ _ h=>h) (Or.inl ⟨by rfl,?y10⟩) HS ?r10
         case y10=>
          intro w_ hS_;go_simp
          try with_reducible rfl
         simp only[Act.put,List.getElem_toArray,List.getElem_cons_succ,List.getElem_cons_zero,List.setIfInBounds_toArray,List.set_cons_succ,List.set_cons_zero]
         refine wpAnyH_take (i:=3) (v:=.agg #[.int .i64 no,.int .i64 kd,.int .u64 l,.int .u64 mo,.slice so sn sc]) rfl (by kernel_rfl) (by kernel_rfl) (by kernel_rfl) (fun _ _ _ h=>h) (yieldsIf_load_mid (by rfl) 88 _ rfl b (off+k*5) rfl [.int .i64 no,.int .i64 kd,.int .u64 l,.int .u64 mo,.slice so sn sc] _ (fun _ h=>h.1) Tryz.underlying88 rfl infoSlt) HS ?_
         simp only[Act.put,List.getElem_toArray,List.getElem_cons_succ,List.getElem_cons_zero,List.setIfInBounds_toArray,List.set_cons_succ,List.set_cons_zero]
         refine wpAnyH_take (i:=4) (v:=?v12) rfl (by kernel_rfl) (by kernel_rfl) (by kernel_rfl) (fun _ _ _ h=>h) (Or.inl ⟨by rfl,?y12⟩) HS ?r12
         case y12=>
          intro w_ hS_;go_simp
          try with_reducible rfl
         simp only[Act.put,List.getElem_toArray,List.getElem_cons_succ,List.getElem_cons_zero,List.setIfInBounds_toArray,List.set_cons_succ,List.set_cons_zero]
         refine wpAnyH_take (i:=5) (v:=?v13) rfl (by kernel_rfl) (by kernel_rfl) (by kernel_rfl) (fun _ _ _ h=>h) (Or.inl ⟨by rfl,?y13⟩) HS ?r13
         case y13=>
          intro w_ hS_;go_simp
          try with_reducible rfl
         simp only[Act.put,List.getElem_toArray,List.getElem_cons_succ,List.getElem_cons_zero,List.setIfInBounds_toArray,List.set_cons_succ,List.set_cons_zero]
         refine wpAnyH_take (i:=6) (v:=?v14) rfl (by kernel_rfl) (by kernel_rfl) (by kernel_rfl) (fun _ _ _ h=>h) (Or.inl ⟨by rfl,?y14⟩) HS ?r14
         case y14=>
          intro w_ hS_;go_simp
          try with_reducible rfl
         simp only[Act.put,List.getElem_toArray,List.getElem_cons_succ,List.getElem_cons_zero,List.setIfInBounds_toArray,List.set_cons_succ,List.set_cons_zero]
         refine wpAnyH_take (i:=7) (v:=.agg #[.int .i64 fno,.int .i64 fty,.int .u64 (fnum:Int),.slice fda fdl fdc]) rfl (by kernel_rfl) (by kernel_rfl) (by kernel_rfl) (fun _ _ _ h=>h) (yieldsIf_load_mid (by rfl) 118 _ rfl fb (k*4) rfl [.int .i64 fno,.int .i64 fty,.int .u64 (fnum:Int),.slice fda fdl fdc] _ (fun _ h=>h.2) Tryz.underlying118 rfl infoFi) HS ?_
         simp only[Act.put,List.getElem_toArray,List.getElem_cons_succ,List.getElem_cons_zero,List.setIfInBounds_toArray,List.set_cons_succ,List.set_cons_zero]
         refine wpAnyH_take (i:=8) (v:=?v16) rfl (by kernel_rfl) (by kernel_rfl) (by kernel_rfl) (fun _ _ _ h=>h) (Or.inl ⟨by rfl,?y16⟩) HS ?r16
         case y16=>
          intro w_ hS_;go_simp
          try with_reducible rfl
         simp only[Act.put,List.getElem_toArray,List.getElem_cons_succ,List.getElem_cons_zero,List.setIfInBounds_toArray,List.set_cons_succ,List.set_cons_zero]
         refine wpAnyH_take (i:=9) (v:=?v17) rfl (by kernel_rfl) (by kernel_rfl) (by kernel_rfl) (fun _ _ _ h=>h) (Or.inl ⟨by rfl,?y17⟩) HS ?r17
         case y17=>
          intro w_ hS_;go_simp
          try with_reducible rfl
         simp only[Act.put,List.getElem_toArray,List.getElem_cons_succ,List.getElem_cons_zero,List.setIfInBounds_toArray,List.set_cons_succ,List.set_cons_zero]
         refine wpAnyH_take (i:=10) (v:=?v18) rfl (by kernel_rfl) (by kernel_rfl) (by kernel_rfl) (fun _ _ _ h=>h) (Or.inl ⟨by rfl,?y18⟩) HS ?r18
         case y18=>
          intro w_ hS_;go_simp
          try with_reducible rfl
         simp only[Act.put,List.getElem_toArray,List.getElem_cons_succ,List.getElem_cons_zero,List.setIfInBounds_toArray,List.set_cons_succ,List.set_cons_zero]
         refine wpAnyH_take (i:=11) (v:=?v19) rfl (by kernel_rfl) (by kernel_rfl) (by kernel_rfl) (fun _ _ _ h=>h) (Or.inl ⟨by rfl,?y19⟩) HS ?r19
         case y19=>
          intro w_ hS_;go_simp
          try with_reducible rfl
         simp only[Act.put,List.getElem_toArray,List.getElem_cons_succ,List.getElem_cons_zero,List.setIfInBounds_toArray,List.set_cons_succ,List.set_cons_zero]
         refine wpAnyH_take (i:=12) (v:=?v20) rfl (by kernel_rfl) (by kernel_rfl) (by kernel_rfl) (fun _ _ _ h=>h) (Or.inl ⟨by rfl,?y20⟩) HS ?r20
         case y20=>
          intro w_ hS_;go_simp
          try with_reducible rfl
         simp only[Act.put,List.getElem_toArray,List.getElem_cons_succ,List.getElem_cons_zero,List.setIfInBounds_toArray,List.set_cons_succ,List.set_cons_zero]
         refine wpAnyH_take (i:=13) (v:=?v21) rfl (by kernel_rfl) (by kernel_rfl) (by kernel_rfl) (fun _ _ _ h=>h) (Or.inl ⟨by rfl,?y21⟩) HS ?r21
         case y21=>
          intro w_ hS_;go_simp
          try with_reducible rfl
         simp only[Act.put,List.getElem_toArray,List.getElem_cons_succ,List.getElem_cons_zero,List.setIfInBounds_toArray,List.set_cons_succ,List.set_cons_zero]
         refine wpAnyH_take (i:=14) (v:=.slice fda fdl fdc) rfl (by kernel_rfl) (by kernel_rfl) (by kernel_rfl) (fun _ _ _ h=>h) (Or.inl ⟨by rfl,?y22⟩) HS ?r22
         case y22=>
          intro w_ hS_;have c_:w_.cell? ⟨fb,k*4+3,none⟩=some (.slice fda fdl fdc):=hS_.2 3 _ rfl;go_simp
          try with_reducible rfl
         simp only[Act.put,List.getElem_toArray,List.getElem_cons_succ,List.getElem_cons_zero,List.setIfInBounds_toArray,List.set_cons_succ,List.set_cons_zero]
         refine wpAnyH_take (i:=15) (v:=?v23) rfl (by kernel_rfl) (by kernel_rfl) (by kernel_rfl) (fun _ _ _ h=>h) (Or.inl ⟨by rfl,?y23⟩) HS ?r23
         case y23=>
          intro w_ hS_;go_simp
          try with_reducible rfl
         simp only[Act.put,List.getElem_toArray,List.getElem_cons_succ,List.getElem_cons_zero,List.setIfInBounds_toArray,List.set_cons_succ,List.set_cons_zero]
         refine wpAnyH_take (i:=16) (v:=.int .i64 (EN-(fdl:Int))) rfl (by kernel_rfl) (by kernel_rfl) (by kernel_rfl) (fun _ _ _ h=>h) (Or.inl ⟨by rfl,?y24⟩) HS ?r24
         case y24=>
          intro w_ hS_;go_simp
          try with_reducible rfl
         simp only[Act.put,List.getElem_toArray,List.getElem_cons_succ,List.getElem_cons_zero,List.setIfInBounds_toArray,List.set_cons_succ,List.set_cons_zero]
         apply ecutQ2 (fun(gX gY:Nat) (W:World)=>Below wr.heap.size wr W∧W.heap[gX]? =some (.cells #[.int .u64 0,.slice none 0 0,.slice none 0 0] 27 (0,0))∧W.heap[gY]? =some (.cells #[.int .i64 fl,.int .i64 fa,.int .i64 fw] 41 (0,0))∧wr.heap.size≤gX∧wr.heap.size≤gY∧gX≠gY)
         ·intro key_
          refine wpAnyH_threeY (j:=17) (k:=21) (l:=22) (fuel:=7) (by kernel_rfl) rfl rfl rfl (by kernel_rfl) (by kernel_rfl) (by kernel_rfl) (fun K_ hK_=>?_) (fun K_ hK_=>?_) (fun K_ hK_=>?_)
          ·refine wp_call_ex (f:=63) (R:=fun u w'=>u=.tuple #[.agg #[.int .u64 0,.slice none 0 0,.slice none 0 0],.agg #[.int .i64 fl,.int .i64 fa,.int .i64 fw]]∧Below a6.heap.size a6 w') (by kernel_rfl) (cV.out a6 hbr) (fun v_ q1 hX_=>?_)
           obtain⟨rfl,hb_⟩:=hX_
           have HS':(fun W:World=>W.rangeAt b (off+k*5) [.int .i64 no,.int .i64 kd,.int .u64 l,.int .u64 mo,.slice so sn sc]∧W.rangeAt fb (k*4) [.int .i64 fno,.int .i64 fty,.int .u64 (fnum:Int),.slice fda fdl fdc]) _:=⟨rangeS_keep2 HS.1 hb_ (by have:=hbr.size;omega),rangeS_keep2 HS.2 hb_ (by have:=hbr.size;omega)⟩
           replace HS:=HS';clear HS';replace hbr:=Below.after hbr hb_;clear hb_;refine hK_ _ _ HS ?_;simp only[Act.put,List.getElem_toArray,List.getElem_cons_succ,List.getElem_cons_zero,List.setIfInBounds_toArray,List.set_cons_succ,List.set_cons_zero];clear hK_
           refine wpAnyH_take (i:=18) (v:=?v25) rfl (by kernel_rfl) (by kernel_rfl) (by kernel_rfl) (fun _ _ _ h=>h) (Or.inl ⟨by rfl,?y25⟩) HS ?r25
           case y25=>
            intro w_ hS_;go_simp
            try with_reducible rfl
           simp only[Act.put,List.getElem_toArray,List.getElem_cons_succ,List.getElem_cons_zero,List.setIfInBounds_toArray,List.set_cons_succ,List.set_cons_zero]
           refine wpAnyH_take (i:=19) (v:=?v26) rfl (by kernel_rfl) (by kernel_rfl) (by kernel_rfl) (fun _ _ _ h=>h) (Or.inl ⟨by rfl,?y26⟩) HS ?r26
           case y26=>
            intro w_ hS_;go_simp
            try with_reducible rfl
           simp only[Act.put,List.getElem_toArray,List.getElem_cons_succ,List.getElem_cons_zero,List.setIfInBounds_toArray,List.set_cons_succ,List.set_cons_zero]
           refine wpAnyH_take (i:=20) (v:=?v27) rfl (by kernel_rfl) (by kernel_rfl) (by kernel_rfl) (fun _ _ _ h=>h) (Or.inl ⟨by rfl,?y27⟩) HS ?r27
           case y27=>
            intro w_ hS_;go_simp
            try with_reducible rfl
           simp only[Act.put,List.getElem_toArray,List.getElem_cons_succ,List.getElem_cons_zero,List.setIfInBounds_toArray,List.set_cons_succ,List.set_cons_zero]
           refine wpAnyH_two (j:=21) (k:=22) (fuel:=3) (by kernel_rfl) rfl rfl (by kernel_rfl) (by kernel_rfl) (fun K_ hK_=>?_) (fun K_ hK_=>?_)
           ·refine wp_world_op (.pointer (some ⟨q1.heap.size,0,none⟩)) (q1.alloc (.cells #[.int .u64 0,.slice none 0 0,.slice none 0 0] 27)) (by kernel_rfl) ?_
            have hb_:Below q1.heap.size q1 (q1.alloc (.cells #[.int .u64 0,.slice none 0 0,.slice none 0 0] 27)):=(Below.refl _ _).alloc (Nat.le_refl _) _
            have lo_gX:wr.heap.size≤q1.heap.size:=hbr.size;have RX:=hp1_0 q1 (.cells #[.int .u64 0,.slice none 0 0,.slice none 0 0] 27)
            have HS':(fun W:World=>W.rangeAt b (off+k*5) [.int .i64 no,.int .i64 kd,.int .u64 l,.int .u64 mo,.slice so sn sc]∧W.rangeAt fb (k*4) [.int .i64 fno,.int .i64 fty,.int .u64 (fnum:Int),.slice fda fdl fdc]) _:=⟨rangeS_keep2 HS.1 hb_ (by have:=hbr.size;omega),rangeS_keep2 HS.2 hb_ (by have:=hbr.size;omega)⟩
            replace HS:=HS';clear HS';replace hbr:=Below.after hbr hb_;clear hb_;refine hK_ _ _ HS ?_;simp only[Act.put,List.getElem_toArray,List.getElem_cons_succ,List.getElem_cons_zero,List.setIfInBounds_toArray,List.set_cons_succ,List.set_cons_zero];clear hK_
            generalize q1.alloc (.cells #[.int .u64 0,.slice none 0 0,.slice none 0 0] 27)=q2 at *
            generalize q1.heap.size=gX at *
            refine wpAnyH_one (k:=22) (fuel:=2) (by kernel_rfl) rfl (by kernel_rfl) (fun K_ hK_=>?_)
            refine wp_world_op (.pointer (some ⟨q2.heap.size,0,none⟩)) (q2.alloc (.cells #[.int .i64 0,.int .i64 0,.int .i64 0] 41)) (by kernel_rfl) ?_
            have hb_:Below q2.heap.size q2 (q2.alloc (.cells #[.int .i64 0,.int .i64 0,.int .i64 0] 41)):=(Below.refl _ _).alloc (Nat.le_refl _) _;have lo_gY:wr.heap.size≤q2.heap.size:=hbr.size;have lt_RX_gY:=lt_of_row RX;have RY:=hp1_0 q2 (.cells #[.int .i64 0,.int .i64 0,.int .i64 0] 41);replace RX:=keep hb_ RX
            have HS':(fun W:World=>W.rangeAt b (off+k*5) [.int .i64 no,.int .i64 kd,.int .u64 l,.int .u64 mo,.slice so sn sc]∧W.rangeAt fb (k*4) [.int .i64 fno,.int .i64 fty,.int .u64 (fnum:Int),.slice fda fdl fdc]) _:=⟨rangeS_keep2 HS.1 hb_ (by have:=hbr.size;omega),rangeS_keep2 HS.2 hb_ (by have:=hbr.size;omega)⟩
            replace HS:=HS';clear HS';replace hbr:=Below.after hbr hb_;clear hb_;refine hK_ _ _ HS ?_;simp only[Act.put,List.getElem_toArray,List.getElem_cons_succ,List.getElem_cons_zero,List.setIfInBounds_toArray,List.set_cons_succ,List.set_cons_zero];clear hK_
            generalize q2.alloc (.cells #[.int .i64 0,.int .i64 0,.int .i64 0] 41)=q3 at *
            generalize q2.heap.size=gY at *
            refine wpAnyH_one (k:=23) (fuel:=1) (by kernel_rfl) rfl (by kernel_rfl) (fun K_ hK_=>?_)
            refine wp_store_row 27 _ _ rfl gX #[.int .u64 0,.slice none 0 0,.slice none 0 0] rfl rfl 27 _ RX infoV rfl oneA ?_
            replace RY:=(setRow_other q3 gX gY #[.int .u64 0,.slice none 0 0,.slice none 0 0] (by omega)).trans RY
            replace RX:=setRow_heap q3 gX _ (#[.int .u64 0,.slice none 0 0,.slice none 0 0]) _ _ RX
            replace hbr:=below_setRow hbr (show wr.heap.size≤gX by omega) #[.int .u64 0,.slice none 0 0,.slice none 0 0]
            have HS':(fun W:World=>W.rangeAt b (off+k*5) [.int .i64 no,.int .i64 kd,.int .u64 l,.int .u64 mo,.slice so sn sc]∧W.rangeAt fb (k*4) [.int .i64 fno,.int .i64 fty,.int .u64 (fnum:Int),.slice fda fdl fdc]) _:=⟨mv_rangeY HS.1 (setRow_other q3 gX b #[.int .u64 0,.slice none 0 0,.slice none 0 0] (by omega)),mv_rangeY HS.2 (setRow_other q3 gX fb #[.int .u64 0,.slice none 0 0,.slice none 0 0] (by omega))⟩
            replace HS:=HS';clear HS';refine hK_ _ _ HS ?_;simp only[Act.put,List.getElem_toArray,List.getElem_cons_succ,List.getElem_cons_zero];clear hK_
            generalize q3.setRow gX #[.int .u64 0,.slice none 0 0,.slice none 0 0]=q4 at *
            refine wpAnyH_one (k:=24) (fuel:=0) (by kernel_rfl) rfl (by kernel_rfl) (fun K_ hK_=>?_)
            refine wp_store_row 41 _ _ rfl gY #[.int .i64 fl,.int .i64 fa,.int .i64 fw] rfl rfl 41 _ RY infoFt rfl oneB ?_
            replace RX:=(setRow_other q4 gY gX #[.int .i64 fl,.int .i64 fa,.int .i64 fw] (by omega)).trans RX
            replace RY:=setRow_heap q4 gY _ (#[.int .i64 fl,.int .i64 fa,.int .i64 fw]) _ _ RY
            replace hbr:=below_setRow hbr (show wr.heap.size≤gY by omega) #[.int .i64 fl,.int .i64 fa,.int .i64 fw]
            have HS':(fun W:World=>W.rangeAt b (off+k*5) [.int .i64 no,.int .i64 kd,.int .u64 l,.int .u64 mo,.slice so sn sc]∧W.rangeAt fb (k*4) [.int .i64 fno,.int .i64 fty,.int .u64 (fnum:Int),.slice fda fdl fdc]) _:=⟨mv_rangeY HS.1 (setRow_other q4 gY b #[.int .i64 fl,.int .i64 fa,.int .i64 fw] (by omega)),mv_rangeY HS.2 (setRow_other q4 gY fb #[.int .i64 fl,.int .i64 fa,.int .i64 fw] (by omega))⟩
            replace HS:=HS';clear HS';refine hK_ _ _ HS ?_;simp only[Act.put,List.getElem_toArray,List.getElem_cons_succ,List.getElem_cons_zero];clear hK_
            generalize q4.setRow gY #[.int .i64 fl,.int .i64 fa,.int .i64 fw]=q5 at *
            refine wpAnyH_done (by kernel_rfl) ?_ _
            exact key_ gX gY q5 ⟨hbr,RX,RY,by omega,by omega,by omega⟩
           ·refine wp_world_op (.pointer (some ⟨q1.heap.size,0,none⟩)) (q1.alloc (.cells #[.int .i64 0,.int .i64 0,.int .i64 0] 41)) (by kernel_rfl) ?_
            have hb_:Below q1.heap.size q1 (q1.alloc (.cells #[.int .i64 0,.int .i64 0,.int .i64 0] 41)):=(Below.refl _ _).alloc (Nat.le_refl _) _
            have lo_gY:wr.heap.size≤q1.heap.size:=hbr.size;have RY:=hp1_0 q1 (.cells #[.int .i64 0,.int .i64 0,.int .i64 0] 41)
            have HS':(fun W:World=>W.rangeAt b (off+k*5) [.int .i64 no,.int .i64 kd,.int .u64 l,.int .u64 mo,.slice so sn sc]∧W.rangeAt fb (k*4) [.int .i64 fno,.int .i64 fty,.int .u64 (fnum:Int),.slice fda fdl fdc]) _:=⟨rangeS_keep2 HS.1 hb_ (by have:=hbr.size;omega),rangeS_keep2 HS.2 hb_ (by have:=hbr.size;omega)⟩
            replace HS:=HS';clear HS';replace hbr:=Below.after hbr hb_;clear hb_;refine hK_ _ _ HS ?_;simp only[Act.put,List.getElem_toArray,List.getElem_cons_succ,List.getElem_cons_zero,List.setIfInBounds_toArray,List.set_cons_succ,List.set_cons_zero];clear hK_
            generalize q1.alloc (.cells #[.int .i64 0,.int .i64 0,.int .i64 0] 41)=q6 at *
            generalize q1.heap.size=gY at *
            refine wpAnyH_one (k:=21) (fuel:=2) (by kernel_rfl) rfl (by kernel_rfl) (fun K_ hK_=>?_)
            refine wp_world_op (.pointer (some ⟨q6.heap.size,0,none⟩)) (q6.alloc (.cells #[.int .u64 0,.slice none 0 0,.slice none 0 0] 27)) (by kernel_rfl) ?_
            have hb_:Below q6.heap.size q6 (q6.alloc (.cells #[.int .u64 0,.slice none 0 0,.slice none 0 0] 27)):=(Below.refl _ _).alloc (Nat.le_refl _) _;have lo_gX:wr.heap.size≤q6.heap.size:=hbr.size;have lt_RY_gX:=lt_of_row RY;have RX:=hp1_0 q6 (.cells #[.int .u64 0,.slice none 0 0,.slice none 0 0] 27);replace RY:=keep hb_ RY
            have HS':(fun W:World=>W.rangeAt b (off+k*5) [.int .i64 no,.int .i64 kd,.int .u64 l,.int .u64 mo,.slice so sn sc]∧W.rangeAt fb (k*4) [.int .i64 fno,.int .i64 fty,.int .u64 (fnum:Int),.slice fda fdl fdc]) _:=⟨rangeS_keep2 HS.1 hb_ (by have:=hbr.size;omega),rangeS_keep2 HS.2 hb_ (by have:=hbr.size;omega)⟩
            replace HS:=HS';clear HS';replace hbr:=Below.after hbr hb_;clear hb_;refine hK_ _ _ HS ?_;simp only[Act.put,List.getElem_toArray,List.getElem_cons_succ,List.getElem_cons_zero,List.setIfInBounds_toArray,List.set_cons_succ,List.set_cons_zero];clear hK_
            generalize q6.alloc (.cells #[.int .u64 0,.slice none 0 0,.slice none 0 0] 27)=q7 at *
            generalize q6.heap.size=gX at *
            refine wpAnyH_one (k:=23) (fuel:=1) (by kernel_rfl) rfl (by kernel_rfl) (fun K_ hK_=>?_)
            refine wp_store_row 27 _ _ rfl gX #[.int .u64 0,.slice none 0 0,.slice none 0 0] rfl rfl 27 _ RX infoV rfl oneA ?_
            replace RY:=(setRow_other q7 gX gY #[.int .u64 0,.slice none 0 0,.slice none 0 0] (by omega)).trans RY
            replace RX:=setRow_heap q7 gX _ (#[.int .u64 0,.slice none 0 0,.slice none 0 0]) _ _ RX
            replace hbr:=below_setRow hbr (show wr.heap.size≤gX by omega) #[.int .u64 0,.slice none 0 0,.slice none 0 0]
            have HS':(fun W:World=>W.rangeAt b (off+k*5) [.int .i64 no,.int .i64 kd,.int .u64 l,.int .u64 mo,.slice so sn sc]∧W.rangeAt fb (k*4) [.int .i64 fno,.int .i64 fty,.int .u64 (fnum:Int),.slice fda fdl fdc]) _:=⟨mv_rangeY HS.1 (setRow_other q7 gX b #[.int .u64 0,.slice none 0 0,.slice none 0 0] (by omega)),mv_rangeY HS.2 (setRow_other q7 gX fb #[.int .u64 0,.slice none 0 0,.slice none 0 0] (by omega))⟩
            replace HS:=HS';clear HS';refine hK_ _ _ HS ?_;simp only[Act.put,List.getElem_toArray,List.getElem_cons_succ,List.getElem_cons_zero];clear hK_
            generalize q7.setRow gX #[.int .u64 0,.slice none 0 0,.slice none 0 0]=q8 at *
            refine wpAnyH_one (k:=24) (fuel:=0) (by kernel_rfl) rfl (by kernel_rfl) (fun K_ hK_=>?_)
            refine wp_store_row 41 _ _ rfl gY #[.int .i64 fl,.int .i64 fa,.int .i64 fw] rfl rfl 41 _ RY infoFt rfl oneB ?_
            replace RX:=(setRow_other q8 gY gX #[.int .i64 fl,.int .i64 fa,.int .i64 fw] (by omega)).trans RX
            replace RY:=setRow_heap q8 gY _ (#[.int .i64 fl,.int .i64 fa,.int .i64 fw]) _ _ RY
            replace hbr:=below_setRow hbr (show wr.heap.size≤gY by omega) #[.int .i64 fl,.int .i64 fa,.int .i64 fw]
            have HS':(fun W:World=>W.rangeAt b (off+k*5) [.int .i64 no,.int .i64 kd,.int .u64 l,.int .u64 mo,.slice so sn sc]∧W.rangeAt fb (k*4) [.int .i64 fno,.int .i64 fty,.int .u64 (fnum:Int),.slice fda fdl fdc]) _:=⟨mv_rangeY HS.1 (setRow_other q8 gY b #[.int .i64 fl,.int .i64 fa,.int .i64 fw] (by omega)),mv_rangeY HS.2 (setRow_other q8 gY fb #[.int .i64 fl,.int .i64 fa,.int .i64 fw] (by omega))⟩
            replace HS:=HS';clear HS';refine hK_ _ _ HS ?_;simp only[Act.put,List.getElem_toArray,List.getElem_cons_succ,List.getElem_cons_zero];clear hK_
            generalize q8.setRow gY #[.int .i64 fl,.int .i64 fa,.int .i64 fw]=q9 at *
            refine wpAnyH_done (by kernel_rfl) ?_ _
            exact key_ gX gY q9 ⟨hbr,RX,RY,by omega,by omega,by omega⟩
          ·refine wp_world_op (.pointer (some ⟨a6.heap.size,0,none⟩)) (a6.alloc (.cells #[.int .u64 0,.slice none 0 0,.slice none 0 0] 27)) (by kernel_rfl) ?_
           have hb_:Below a6.heap.size a6 (a6.alloc (.cells #[.int .u64 0,.slice none 0 0,.slice none 0 0] 27)):=(Below.refl _ _).alloc (Nat.le_refl _) _
           have lo_gX:wr.heap.size≤a6.heap.size:=hbr.size;have RX:=hp1_0 a6 (.cells #[.int .u64 0,.slice none 0 0,.slice none 0 0] 27)
           have HS':(fun W:World=>W.rangeAt b (off+k*5) [.int .i64 no,.int .i64 kd,.int .u64 l,.int .u64 mo,.slice so sn sc]∧W.rangeAt fb (k*4) [.int .i64 fno,.int .i64 fty,.int .u64 (fnum:Int),.slice fda fdl fdc]) _:=⟨rangeS_keep2 HS.1 hb_ (by have:=hbr.size;omega),rangeS_keep2 HS.2 hb_ (by have:=hbr.size;omega)⟩
           replace HS:=HS';clear HS';replace hbr:=Below.after hbr hb_;clear hb_;refine hK_ _ _ HS ?_;simp only[Act.put,List.getElem_toArray,List.getElem_cons_succ,List.getElem_cons_zero,List.setIfInBounds_toArray,List.set_cons_succ,List.set_cons_zero];clear hK_
           generalize a6.alloc (.cells #[.int .u64 0,.slice none 0 0,.slice none 0 0] 27)=q10 at *
           generalize a6.heap.size=gX at *
           refine wpAnyH_two (j:=17) (k:=22) (fuel:=6) (by kernel_rfl) rfl rfl (by kernel_rfl) (by kernel_rfl) (fun K_ hK_=>?_) (fun K_ hK_=>?_)
           ·refine wp_call_ex (f:=63) (R:=fun u w'=>u=.tuple #[.agg #[.int .u64 0,.slice none 0 0,.slice none 0 0],.agg #[.int .i64 fl,.int .i64 fa,.int .i64 fw]]∧Below q10.heap.size q10 w') (by kernel_rfl) (cV.out q10 hbr) (fun v_ q11 hX_=>?_)
            obtain⟨rfl,hb_⟩:=hX_
            replace RX:=keep hb_ RX
            have HS':(fun W:World=>W.rangeAt b (off+k*5) [.int .i64 no,.int .i64 kd,.int .u64 l,.int .u64 mo,.slice so sn sc]∧W.rangeAt fb (k*4) [.int .i64 fno,.int .i64 fty,.int .u64 (fnum:Int),.slice fda fdl fdc]) _:=⟨rangeS_keep2 HS.1 hb_ (by have:=hbr.size;omega),rangeS_keep2 HS.2 hb_ (by have:=hbr.size;omega)⟩
            replace HS:=HS';clear HS';replace hbr:=Below.after hbr hb_;clear hb_;refine hK_ _ _ HS ?_;simp only[Act.put,List.getElem_toArray,List.getElem_cons_succ,List.getElem_cons_zero,List.setIfInBounds_toArray,List.set_cons_succ,List.set_cons_zero];clear hK_
            refine wpAnyH_take (i:=18) (v:=?v28) rfl (by kernel_rfl) (by kernel_rfl) (by kernel_rfl) (fun _ _ _ h=>h) (Or.inl ⟨by rfl,?y28⟩) HS ?r28
            case y28=>
             intro w_ hS_;go_simp
             try with_reducible rfl
            simp only[Act.put,List.getElem_toArray,List.getElem_cons_succ,List.getElem_cons_zero,List.setIfInBounds_toArray,List.set_cons_succ,List.set_cons_zero]
            refine wpAnyH_take (i:=19) (v:=?v29) rfl (by kernel_rfl) (by kernel_rfl) (by kernel_rfl) (fun _ _ _ h=>h) (Or.inl ⟨by rfl,?y29⟩) HS ?r29
            case y29=>
             intro w_ hS_;go_simp
             try with_reducible rfl
            simp only[Act.put,List.getElem_toArray,List.getElem_cons_succ,List.getElem_cons_zero,List.setIfInBounds_toArray,List.set_cons_succ,List.set_cons_zero]
            refine wpAnyH_take (i:=20) (v:=?v30) rfl (by kernel_rfl) (by kernel_rfl) (by kernel_rfl) (fun _ _ _ h=>h) (Or.inl ⟨by rfl,?y30⟩) HS ?r30
            case y30=>
             intro w_ hS_;go_simp
             try with_reducible rfl
            simp only[Act.put,List.getElem_toArray,List.getElem_cons_succ,List.getElem_cons_zero,List.setIfInBounds_toArray,List.set_cons_succ,List.set_cons_zero]
            refine wpAnyH_one (k:=22) (fuel:=2) (by kernel_rfl) rfl (by kernel_rfl) (fun K_ hK_=>?_)
            refine wp_world_op (.pointer (some ⟨q11.heap.size,0,none⟩)) (q11.alloc (.cells #[.int .i64 0,.int .i64 0,.int .i64 0] 41)) (by kernel_rfl) ?_
            have hb_:Below q11.heap.size q11 (q11.alloc (.cells #[.int .i64 0,.int .i64 0,.int .i64 0] 41)):=(Below.refl _ _).alloc (Nat.le_refl _) _;have lo_gY:wr.heap.size≤q11.heap.size:=hbr.size;have lt_RX_gY:=lt_of_row RX;have RY:=hp1_0 q11 (.cells #[.int .i64 0,.int .i64 0,.int .i64 0] 41);replace RX:=keep hb_ RX
            have HS':(fun W:World=>W.rangeAt b (off+k*5) [.int .i64 no,.int .i64 kd,.int .u64 l,.int .u64 mo,.slice so sn sc]∧W.rangeAt fb (k*4) [.int .i64 fno,.int .i64 fty,.int .u64 (fnum:Int),.slice fda fdl fdc]) _:=⟨rangeS_keep2 HS.1 hb_ (by have:=hbr.size;omega),rangeS_keep2 HS.2 hb_ (by have:=hbr.size;omega)⟩
            replace HS:=HS';clear HS';replace hbr:=Below.after hbr hb_;clear hb_;refine hK_ _ _ HS ?_;simp only[Act.put,List.getElem_toArray,List.getElem_cons_succ,List.getElem_cons_zero,List.setIfInBounds_toArray,List.set_cons_succ,List.set_cons_zero];clear hK_
            generalize q11.alloc (.cells #[.int .i64 0,.int .i64 0,.int .i64 0] 41)=q12 at *
            generalize q11.heap.size=gY at *
            refine wpAnyH_one (k:=23) (fuel:=1) (by kernel_rfl) rfl (by kernel_rfl) (fun K_ hK_=>?_)
            refine wp_store_row 27 _ _ rfl gX #[.int .u64 0,.slice none 0 0,.slice none 0 0] rfl rfl 27 _ RX infoV rfl oneA ?_
            replace RY:=(setRow_other q12 gX gY #[.int .u64 0,.slice none 0 0,.slice none 0 0] (by omega)).trans RY
            replace RX:=setRow_heap q12 gX _ (#[.int .u64 0,.slice none 0 0,.slice none 0 0]) _ _ RX
            replace hbr:=below_setRow hbr (show wr.heap.size≤gX by omega) #[.int .u64 0,.slice none 0 0,.slice none 0 0]
            have HS':(fun W:World=>W.rangeAt b (off+k*5) [.int .i64 no,.int .i64 kd,.int .u64 l,.int .u64 mo,.slice so sn sc]∧W.rangeAt fb (k*4) [.int .i64 fno,.int .i64 fty,.int .u64 (fnum:Int),.slice fda fdl fdc]) _:=⟨mv_rangeY HS.1 (setRow_other q12 gX b #[.int .u64 0,.slice none 0 0,.slice none 0 0] (by omega)),mv_rangeY HS.2 (setRow_other q12 gX fb #[.int .u64 0,.slice none 0 0,.slice none 0 0] (by omega))⟩
            replace HS:=HS';clear HS';refine hK_ _ _ HS ?_;simp only[Act.put,List.getElem_toArray,List.getElem_cons_succ,List.getElem_cons_zero];clear hK_
            generalize q12.setRow gX #[.int .u64 0,.slice none 0 0,.slice none 0 0]=q13 at *
            refine wpAnyH_one (k:=24) (fuel:=0) (by kernel_rfl) rfl (by kernel_rfl) (fun K_ hK_=>?_)
            refine wp_store_row 41 _ _ rfl gY #[.int .i64 fl,.int .i64 fa,.int .i64 fw] rfl rfl 41 _ RY infoFt rfl oneB ?_
            replace RX:=(setRow_other q13 gY gX #[.int .i64 fl,.int .i64 fa,.int .i64 fw] (by omega)).trans RX
            replace RY:=setRow_heap q13 gY _ (#[.int .i64 fl,.int .i64 fa,.int .i64 fw]) _ _ RY
            replace hbr:=below_setRow hbr (show wr.heap.size≤gY by omega) #[.int .i64 fl,.int .i64 fa,.int .i64 fw]
            have HS':(fun W:World=>W.rangeAt b (off+k*5) [.int .i64 no,.int .i64 kd,.int .u64 l,.int .u64 mo,.slice so sn sc]∧W.rangeAt fb (k*4) [.int .i64 fno,.int .i64 fty,.int .u64 (fnum:Int),.slice fda fdl fdc]) _:=⟨mv_rangeY HS.1 (setRow_other q13 gY b #[.int .i64 fl,.int .i64 fa,.int .i64 fw] (by omega)),mv_rangeY HS.2 (setRow_other q13 gY fb #[.int .i64 fl,.int .i64 fa,.int .i64 fw] (by omega))⟩
            replace HS:=HS';clear HS';refine hK_ _ _ HS ?_;simp only[Act.put,List.getElem_toArray,List.getElem_cons_succ,List.getElem_cons_zero];clear hK_
            generalize q13.setRow gY #[.int .i64 fl,.int .i64 fa,.int .i64 fw]=q14 at *
            refine wpAnyH_done (by kernel_rfl) ?_ _
            exact key_ gX gY q14 ⟨hbr,RX,RY,by omega,by omega,by omega⟩
           ·refine wp_world_op (.pointer (some ⟨q10.heap.size,0,none⟩)) (q10.alloc (.cells #[.int .i64 0,.int .i64 0,.int .i64 0] 41)) (by kernel_rfl) ?_
            have hb_:Below q10.heap.size q10 (q10.alloc (.cells #[.int .i64 0,.int .i64 0,.int .i64 0] 41)):=(Below.refl _ _).alloc (Nat.le_refl _) _
            have lo_gY:wr.heap.size≤q10.heap.size:=hbr.size;have lt_RX_gY:=lt_of_row RX;have RY:=hp1_0 q10 (.cells #[.int .i64 0,.int .i64 0,.int .i64 0] 41);replace RX:=keep hb_ RX
            have HS':(fun W:World=>W.rangeAt b (off+k*5) [.int .i64 no,.int .i64 kd,.int .u64 l,.int .u64 mo,.slice so sn sc]∧W.rangeAt fb (k*4) [.int .i64 fno,.int .i64 fty,.int .u64 (fnum:Int),.slice fda fdl fdc]) _:=⟨rangeS_keep2 HS.1 hb_ (by have:=hbr.size;omega),rangeS_keep2 HS.2 hb_ (by have:=hbr.size;omega)⟩
            replace HS:=HS';clear HS';replace hbr:=Below.after hbr hb_;clear hb_;refine hK_ _ _ HS ?_;simp only[Act.put,List.getElem_toArray,List.getElem_cons_succ,List.getElem_cons_zero,List.setIfInBounds_toArray,List.set_cons_succ,List.set_cons_zero];clear hK_
            generalize q10.alloc (.cells #[.int .i64 0,.int .i64 0,.int .i64 0] 41)=q15 at *
            generalize q10.heap.size=gY at *
            refine wpAnyH_one (k:=17) (fuel:=5) (by kernel_rfl) rfl (by kernel_rfl) (fun K_ hK_=>?_)
            refine wp_call_ex (f:=63) (R:=fun u w'=>u=.tuple #[.agg #[.int .u64 0,.slice none 0 0,.slice none 0 0],.agg #[.int .i64 fl,.int .i64 fa,.int .i64 fw]]∧Below q15.heap.size q15 w') (by kernel_rfl) (cV.out q15 hbr) (fun v_ q16 hX_=>?_)
            obtain⟨rfl,hb_⟩:=hX_;replace RX:=keep hb_ RX;replace RY:=keep hb_ RY
            have HS':(fun W:World=>W.rangeAt b (off+k*5) [.int .i64 no,.int .i64 kd,.int .u64 l,.int .u64 mo,.slice so sn sc]∧W.rangeAt fb (k*4) [.int .i64 fno,.int .i64 fty,.int .u64 (fnum:Int),.slice fda fdl fdc]) _:=⟨rangeS_keep2 HS.1 hb_ (by have:=hbr.size;omega),rangeS_keep2 HS.2 hb_ (by have:=hbr.size;omega)⟩
            replace HS:=HS';clear HS';replace hbr:=Below.after hbr hb_;clear hb_;refine hK_ _ _ HS ?_;simp only[Act.put,List.getElem_toArray,List.getElem_cons_succ,List.getElem_cons_zero,List.setIfInBounds_toArray,List.set_cons_succ,List.set_cons_zero];clear hK_
            refine wpAnyH_take (i:=18) (v:=?v31) rfl (by kernel_rfl) (by kernel_rfl) (by kernel_rfl) (fun _ _ _ h=>h) (Or.inl ⟨by rfl,?y31⟩) HS ?r31
            case y31=>
             intro w_ hS_;go_simp
             try with_reducible rfl
            simp only[Act.put,List.getElem_toArray,List.getElem_cons_succ,List.getElem_cons_zero,List.setIfInBounds_toArray,List.set_cons_succ,List.set_cons_zero]
            refine wpAnyH_take (i:=19) (v:=?v32) rfl (by kernel_rfl) (by kernel_rfl) (by kernel_rfl) (fun _ _ _ h=>h) (Or.inl ⟨by rfl,?y32⟩) HS ?r32
            case y32=>
             intro w_ hS_;go_simp
             try with_reducible rfl
            simp only[Act.put,List.getElem_toArray,List.getElem_cons_succ,List.getElem_cons_zero,List.setIfInBounds_toArray,List.set_cons_succ,List.set_cons_zero]
            refine wpAnyH_take (i:=20) (v:=?v33) rfl (by kernel_rfl) (by kernel_rfl) (by kernel_rfl) (fun _ _ _ h=>h) (Or.inl ⟨by rfl,?y33⟩) HS ?r33
            case y33=>
             intro w_ hS_;go_simp
             try with_reducible rfl
            simp only[Act.put,List.getElem_toArray,List.getElem_cons_succ,List.getElem_cons_zero,List.setIfInBounds_toArray,List.set_cons_succ,List.set_cons_zero]
            refine wpAnyH_one (k:=23) (fuel:=1) (by kernel_rfl) rfl (by kernel_rfl) (fun K_ hK_=>?_)
            refine wp_store_row 27 _ _ rfl gX #[.int .u64 0,.slice none 0 0,.slice none 0 0] rfl rfl 27 _ RX infoV rfl oneA ?_
            replace RY:=(setRow_other q16 gX gY #[.int .u64 0,.slice none 0 0,.slice none 0 0] (by omega)).trans RY
            replace RX:=setRow_heap q16 gX _ (#[.int .u64 0,.slice none 0 0,.slice none 0 0]) _ _ RX
            replace hbr:=below_setRow hbr (show wr.heap.size≤gX by omega) #[.int .u64 0,.slice none 0 0,.slice none 0 0]
            have HS':(fun W:World=>W.rangeAt b (off+k*5) [.int .i64 no,.int .i64 kd,.int .u64 l,.int .u64 mo,.slice so sn sc]∧W.rangeAt fb (k*4) [.int .i64 fno,.int .i64 fty,.int .u64 (fnum:Int),.slice fda fdl fdc]) _:=⟨mv_rangeY HS.1 (setRow_other q16 gX b #[.int .u64 0,.slice none 0 0,.slice none 0 0] (by omega)),mv_rangeY HS.2 (setRow_other q16 gX fb #[.int .u64 0,.slice none 0 0,.slice none 0 0] (by omega))⟩
            replace HS:=HS';clear HS';refine hK_ _ _ HS ?_;simp only[Act.put,List.getElem_toArray,List.getElem_cons_succ,List.getElem_cons_zero];clear hK_
            generalize q16.setRow gX #[.int .u64 0,.slice none 0 0,.slice none 0 0]=q17 at *
            refine wpAnyH_one (k:=24) (fuel:=0) (by kernel_rfl) rfl (by kernel_rfl) (fun K_ hK_=>?_)
            refine wp_store_row 41 _ _ rfl gY #[.int .i64 fl,.int .i64 fa,.int .i64 fw] rfl rfl 41 _ RY infoFt rfl oneB ?_
            replace RX:=(setRow_other q17 gY gX #[.int .i64 fl,.int .i64 fa,.int .i64 fw] (by omega)).trans RX
            replace RY:=setRow_heap q17 gY _ (#[.int .i64 fl,.int .i64 fa,.int .i64 fw]) _ _ RY
            replace hbr:=below_setRow hbr (show wr.heap.size≤gY by omega) #[.int .i64 fl,.int .i64 fa,.int .i64 fw]
            have HS':(fun W:World=>W.rangeAt b (off+k*5) [.int .i64 no,.int .i64 kd,.int .u64 l,.int .u64 mo,.slice so sn sc]∧W.rangeAt fb (k*4) [.int .i64 fno,.int .i64 fty,.int .u64 (fnum:Int),.slice fda fdl fdc]) _:=⟨mv_rangeY HS.1 (setRow_other q17 gY b #[.int .i64 fl,.int .i64 fa,.int .i64 fw] (by omega)),mv_rangeY HS.2 (setRow_other q17 gY fb #[.int .i64 fl,.int .i64 fa,.int .i64 fw] (by omega))⟩
            replace HS:=HS';clear HS';refine hK_ _ _ HS ?_;simp only[Act.put,List.getElem_toArray,List.getElem_cons_succ,List.getElem_cons_zero];clear hK_
            generalize q17.setRow gY #[.int .i64 fl,.int .i64 fa,.int .i64 fw]=q18 at *
            refine wpAnyH_done (by kernel_rfl) ?_ _
            exact key_ gX gY q18 ⟨hbr,RX,RY,by omega,by omega,by omega⟩
          ·refine wp_world_op (.pointer (some ⟨a6.heap.size,0,none⟩)) (a6.alloc (.cells #[.int .i64 0,.int .i64 0,.int .i64 0] 41)) (by kernel_rfl) ?_
           have hb_:Below a6.heap.size a6 (a6.alloc (.cells #[.int .i64 0,.int .i64 0,.int .i64 0] 41)):=(Below.refl _ _).alloc (Nat.le_refl _) _
           have lo_gY:wr.heap.size≤a6.heap.size:=hbr.size;have RY:=hp1_0 a6 (.cells #[.int .i64 0,.int .i64 0,.int .i64 0] 41)
           have HS':(fun W:World=>W.rangeAt b (off+k*5) [.int .i64 no,.int .i64 kd,.int .u64 l,.int .u64 mo,.slice so sn sc]∧W.rangeAt fb (k*4) [.int .i64 fno,.int .i64 fty,.int .u64 (fnum:Int),.slice fda fdl fdc]) _:=⟨rangeS_keep2 HS.1 hb_ (by have:=hbr.size;omega),rangeS_keep2 HS.2 hb_ (by have:=hbr.size;omega)⟩
           replace HS:=HS';clear HS';replace hbr:=Below.after hbr hb_;clear hb_;refine hK_ _ _ HS ?_;simp only[Act.put,List.getElem_toArray,List.getElem_cons_succ,List.getElem_cons_zero,List.setIfInBounds_toArray,List.set_cons_succ,List.set_cons_zero];clear hK_
           generalize a6.alloc (.cells #[.int .i64 0,.int .i64 0,.int .i64 0] 41)=q19 at *
           generalize a6.heap.size=gY at *
           refine wpAnyH_two (j:=17) (k:=21) (fuel:=6) (by kernel_rfl) rfl rfl (by kernel_rfl) (by kernel_rfl) (fun K_ hK_=>?_) (fun K_ hK_=>?_)
           ·refine wp_call_ex (f:=63) (R:=fun u w'=>u=.tuple #[.agg #[.int .u64 0,.slice none 0 0,.slice none 0 0],.agg #[.int .i64 fl,.int .i64 fa,.int .i64 fw]]∧Below q19.heap.size q19 w') (by kernel_rfl) (cV.out q19 hbr) (fun v_ q20 hX_=>?_)
            obtain⟨rfl,hb_⟩:=hX_
            replace RY:=keep hb_ RY
            have HS':(fun W:World=>W.rangeAt b (off+k*5) [.int .i64 no,.int .i64 kd,.int .u64 l,.int .u64 mo,.slice so sn sc]∧W.rangeAt fb (k*4) [.int .i64 fno,.int .i64 fty,.int .u64 (fnum:Int),.slice fda fdl fdc]) _:=⟨rangeS_keep2 HS.1 hb_ (by have:=hbr.size;omega),rangeS_keep2 HS.2 hb_ (by have:=hbr.size;omega)⟩
            replace HS:=HS';clear HS';replace hbr:=Below.after hbr hb_;clear hb_;refine hK_ _ _ HS ?_;simp only[Act.put,List.getElem_toArray,List.getElem_cons_succ,List.getElem_cons_zero,List.setIfInBounds_toArray,List.set_cons_succ,List.set_cons_zero];clear hK_
            refine wpAnyH_take (i:=18) (v:=?v34) rfl (by kernel_rfl) (by kernel_rfl) (by kernel_rfl) (fun _ _ _ h=>h) (Or.inl ⟨by rfl,?y34⟩) HS ?r34
            case y34=>
             intro w_ hS_;go_simp
             try with_reducible rfl
            simp only[Act.put,List.getElem_toArray,List.getElem_cons_succ,List.getElem_cons_zero,List.setIfInBounds_toArray,List.set_cons_succ,List.set_cons_zero]
            refine wpAnyH_take (i:=19) (v:=?v35) rfl (by kernel_rfl) (by kernel_rfl) (by kernel_rfl) (fun _ _ _ h=>h) (Or.inl ⟨by rfl,?y35⟩) HS ?r35
            case y35=>
             intro w_ hS_;go_simp
             try with_reducible rfl
            simp only[Act.put,List.getElem_toArray,List.getElem_cons_succ,List.getElem_cons_zero,List.setIfInBounds_toArray,List.set_cons_succ,List.set_cons_zero]
            refine wpAnyH_take (i:=20) (v:=?v36) rfl (by kernel_rfl) (by kernel_rfl) (by kernel_rfl) (fun _ _ _ h=>h) (Or.inl ⟨by rfl,?y36⟩) HS ?r36
            case y36=>
             intro w_ hS_;go_simp
             try with_reducible rfl
            simp only[Act.put,List.getElem_toArray,List.getElem_cons_succ,List.getElem_cons_zero,List.setIfInBounds_toArray,List.set_cons_succ,List.set_cons_zero]
            refine wpAnyH_one (k:=21) (fuel:=2) (by kernel_rfl) rfl (by kernel_rfl) (fun K_ hK_=>?_)
            refine wp_world_op (.pointer (some ⟨q20.heap.size,0,none⟩)) (q20.alloc (.cells #[.int .u64 0,.slice none 0 0,.slice none 0 0] 27)) (by kernel_rfl) ?_
            have hb_:Below q20.heap.size q20 (q20.alloc (.cells #[.int .u64 0,.slice none 0 0,.slice none 0 0] 27)):=(Below.refl _ _).alloc (Nat.le_refl _) _;have lo_gX:wr.heap.size≤q20.heap.size:=hbr.size;have lt_RY_gX:=lt_of_row RY;have RX:=hp1_0 q20 (.cells #[.int .u64 0,.slice none 0 0,.slice none 0 0] 27);replace RY:=keep hb_ RY
            have HS':(fun W:World=>W.rangeAt b (off+k*5) [.int .i64 no,.int .i64 kd,.int .u64 l,.int .u64 mo,.slice so sn sc]∧W.rangeAt fb (k*4) [.int .i64 fno,.int .i64 fty,.int .u64 (fnum:Int),.slice fda fdl fdc]) _:=⟨rangeS_keep2 HS.1 hb_ (by have:=hbr.size;omega),rangeS_keep2 HS.2 hb_ (by have:=hbr.size;omega)⟩
            replace HS:=HS';clear HS';replace hbr:=Below.after hbr hb_;clear hb_;refine hK_ _ _ HS ?_;simp only[Act.put,List.getElem_toArray,List.getElem_cons_succ,List.getElem_cons_zero,List.setIfInBounds_toArray,List.set_cons_succ,List.set_cons_zero];clear hK_
            generalize q20.alloc (.cells #[.int .u64 0,.slice none 0 0,.slice none 0 0] 27)=q21 at *
            generalize q20.heap.size=gX at *
            refine wpAnyH_one (k:=23) (fuel:=1) (by kernel_rfl) rfl (by kernel_rfl) (fun K_ hK_=>?_)
            refine wp_store_row 27 _ _ rfl gX #[.int .u64 0,.slice none 0 0,.slice none 0 0] rfl rfl 27 _ RX infoV rfl oneA ?_
            replace RY:=(setRow_other q21 gX gY #[.int .u64 0,.slice none 0 0,.slice none 0 0] (by omega)).trans RY
            replace RX:=setRow_heap q21 gX _ (#[.int .u64 0,.slice none 0 0,.slice none 0 0]) _ _ RX
            replace hbr:=below_setRow hbr (show wr.heap.size≤gX by omega) #[.int .u64 0,.slice none 0 0,.slice none 0 0]
            have HS':(fun W:World=>W.rangeAt b (off+k*5) [.int .i64 no,.int .i64 kd,.int .u64 l,.int .u64 mo,.slice so sn sc]∧W.rangeAt fb (k*4) [.int .i64 fno,.int .i64 fty,.int .u64 (fnum:Int),.slice fda fdl fdc]) _:=⟨mv_rangeY HS.1 (setRow_other q21 gX b #[.int .u64 0,.slice none 0 0,.slice none 0 0] (by omega)),mv_rangeY HS.2 (setRow_other q21 gX fb #[.int .u64 0,.slice none 0 0,.slice none 0 0] (by omega))⟩
            replace HS:=HS';clear HS';refine hK_ _ _ HS ?_;simp only[Act.put,List.getElem_toArray,List.getElem_cons_succ,List.getElem_cons_zero];clear hK_
            generalize q21.setRow gX #[.int .u64 0,.slice none 0 0,.slice none 0 0]=q22 at *
            refine wpAnyH_one (k:=24) (fuel:=0) (by kernel_rfl) rfl (by kernel_rfl) (fun K_ hK_=>?_)
            refine wp_store_row 41 _ _ rfl gY #[.int .i64 fl,.int .i64 fa,.int .i64 fw] rfl rfl 41 _ RY infoFt rfl oneB ?_
            replace RX:=(setRow_other q22 gY gX #[.int .i64 fl,.int .i64 fa,.int .i64 fw] (by omega)).trans RX
            replace RY:=setRow_heap q22 gY _ (#[.int .i64 fl,.int .i64 fa,.int .i64 fw]) _ _ RY
            replace hbr:=below_setRow hbr (show wr.heap.size≤gY by omega) #[.int .i64 fl,.int .i64 fa,.int .i64 fw]
            have HS':(fun W:World=>W.rangeAt b (off+k*5) [.int .i64 no,.int .i64 kd,.int .u64 l,.int .u64 mo,.slice so sn sc]∧W.rangeAt fb (k*4) [.int .i64 fno,.int .i64 fty,.int .u64 (fnum:Int),.slice fda fdl fdc]) _:=⟨mv_rangeY HS.1 (setRow_other q22 gY b #[.int .i64 fl,.int .i64 fa,.int .i64 fw] (by omega)),mv_rangeY HS.2 (setRow_other q22 gY fb #[.int .i64 fl,.int .i64 fa,.int .i64 fw] (by omega))⟩
            replace HS:=HS';clear HS';refine hK_ _ _ HS ?_;simp only[Act.put,List.getElem_toArray,List.getElem_cons_succ,List.getElem_cons_zero];clear hK_
            generalize q22.setRow gY #[.int .i64 fl,.int .i64 fa,.int .i64 fw]=q23 at *
            refine wpAnyH_done (by kernel_rfl) ?_ _
            exact key_ gX gY q23 ⟨hbr,RX,RY,by omega,by omega,by omega⟩
           ·refine wp_world_op (.pointer (some ⟨q19.heap.size,0,none⟩)) (q19.alloc (.cells #[.int .u64 0,.slice none 0 0,.slice none 0 0] 27)) (by kernel_rfl) ?_
            have hb_:Below q19.heap.size q19 (q19.alloc (.cells #[.int .u64 0,.slice none 0 0,.slice none 0 0] 27)):=(Below.refl _ _).alloc (Nat.le_refl _) _
            have lo_gX:wr.heap.size≤q19.heap.size:=hbr.size;have lt_RY_gX:=lt_of_row RY;have RX:=hp1_0 q19 (.cells #[.int .u64 0,.slice none 0 0,.slice none 0 0] 27);replace RY:=keep hb_ RY
            have HS':(fun W:World=>W.rangeAt b (off+k*5) [.int .i64 no,.int .i64 kd,.int .u64 l,.int .u64 mo,.slice so sn sc]∧W.rangeAt fb (k*4) [.int .i64 fno,.int .i64 fty,.int .u64 (fnum:Int),.slice fda fdl fdc]) _:=⟨rangeS_keep2 HS.1 hb_ (by have:=hbr.size;omega),rangeS_keep2 HS.2 hb_ (by have:=hbr.size;omega)⟩
            replace HS:=HS';clear HS';replace hbr:=Below.after hbr hb_;clear hb_;refine hK_ _ _ HS ?_;simp only[Act.put,List.getElem_toArray,List.getElem_cons_succ,List.getElem_cons_zero,List.setIfInBounds_toArray,List.set_cons_succ,List.set_cons_zero];clear hK_
            generalize q19.alloc (.cells #[.int .u64 0,.slice none 0 0,.slice none 0 0] 27)=q24 at *
            generalize q19.heap.size=gX at *
            refine wpAnyH_one (k:=17) (fuel:=5) (by kernel_rfl) rfl (by kernel_rfl) (fun K_ hK_=>?_)
            refine wp_call_ex (f:=63) (R:=fun u w'=>u=.tuple #[.agg #[.int .u64 0,.slice none 0 0,.slice none 0 0],.agg #[.int .i64 fl,.int .i64 fa,.int .i64 fw]]∧Below q24.heap.size q24 w') (by kernel_rfl) (cV.out q24 hbr) (fun v_ q25 hX_=>?_)
            obtain⟨rfl,hb_⟩:=hX_;replace RY:=keep hb_ RY;replace RX:=keep hb_ RX
            have HS':(fun W:World=>W.rangeAt b (off+k*5) [.int .i64 no,.int .i64 kd,.int .u64 l,.int .u64 mo,.slice so sn sc]∧W.rangeAt fb (k*4) [.int .i64 fno,.int .i64 fty,.int .u64 (fnum:Int),.slice fda fdl fdc]) _:=⟨rangeS_keep2 HS.1 hb_ (by have:=hbr.size;omega),rangeS_keep2 HS.2 hb_ (by have:=hbr.size;omega)⟩
            replace HS:=HS';clear HS';replace hbr:=Below.after hbr hb_;clear hb_;refine hK_ _ _ HS ?_;simp only[Act.put,List.getElem_toArray,List.getElem_cons_succ,List.getElem_cons_zero,List.setIfInBounds_toArray,List.set_cons_succ,List.set_cons_zero];clear hK_
            refine wpAnyH_take (i:=18) (v:=?v37) rfl (by kernel_rfl) (by kernel_rfl) (by kernel_rfl) (fun _ _ _ h=>h) (Or.inl ⟨by rfl,?y37⟩) HS ?r37
            case y37=>
             intro w_ hS_;go_simp
             try with_reducible rfl
            simp only[Act.put,List.getElem_toArray,List.getElem_cons_succ,List.getElem_cons_zero,List.setIfInBounds_toArray,List.set_cons_succ,List.set_cons_zero]
            refine wpAnyH_take (i:=19) (v:=?v38) rfl (by kernel_rfl) (by kernel_rfl) (by kernel_rfl) (fun _ _ _ h=>h) (Or.inl ⟨by rfl,?y38⟩) HS ?r38
            case y38=>
             intro w_ hS_;go_simp
             try with_reducible rfl
            simp only[Act.put,List.getElem_toArray,List.getElem_cons_succ,List.getElem_cons_zero,List.setIfInBounds_toArray,List.set_cons_succ,List.set_cons_zero]
            refine wpAnyH_take (i:=20) (v:=?v39) rfl (by kernel_rfl) (by kernel_rfl) (by kernel_rfl) (fun _ _ _ h=>h) (Or.inl ⟨by rfl,?y39⟩) HS ?r39
            case y39=>
             intro w_ hS_;go_simp
             try with_reducible rfl
            simp only[Act.put,List.getElem_toArray,List.getElem_cons_succ,List.getElem_cons_zero,List.setIfInBounds_toArray,List.set_cons_succ,List.set_cons_zero]
            refine wpAnyH_one (k:=23) (fuel:=1) (by kernel_rfl) rfl (by kernel_rfl) (fun K_ hK_=>?_)
            refine wp_store_row 27 _ _ rfl gX #[.int .u64 0,.slice none 0 0,.slice none 0 0] rfl rfl 27 _ RX infoV rfl oneA ?_
            replace RY:=(setRow_other q25 gX gY #[.int .u64 0,.slice none 0 0,.slice none 0 0] (by omega)).trans RY
            replace RX:=setRow_heap q25 gX _ (#[.int .u64 0,.slice none 0 0,.slice none 0 0]) _ _ RX
            replace hbr:=below_setRow hbr (show wr.heap.size≤gX by omega) #[.int .u64 0,.slice none 0 0,.slice none 0 0]
            have HS':(fun W:World=>W.rangeAt b (off+k*5) [.int .i64 no,.int .i64 kd,.int .u64 l,.int .u64 mo,.slice so sn sc]∧W.rangeAt fb (k*4) [.int .i64 fno,.int .i64 fty,.int .u64 (fnum:Int),.slice fda fdl fdc]) _:=⟨mv_rangeY HS.1 (setRow_other q25 gX b #[.int .u64 0,.slice none 0 0,.slice none 0 0] (by omega)),mv_rangeY HS.2 (setRow_other q25 gX fb #[.int .u64 0,.slice none 0 0,.slice none 0 0] (by omega))⟩
            replace HS:=HS';clear HS';refine hK_ _ _ HS ?_;simp only[Act.put,List.getElem_toArray,List.getElem_cons_succ,List.getElem_cons_zero];clear hK_
            generalize q25.setRow gX #[.int .u64 0,.slice none 0 0,.slice none 0 0]=q26 at *
            refine wpAnyH_one (k:=24) (fuel:=0) (by kernel_rfl) rfl (by kernel_rfl) (fun K_ hK_=>?_)
            refine wp_store_row 41 _ _ rfl gY #[.int .i64 fl,.int .i64 fa,.int .i64 fw] rfl rfl 41 _ RY infoFt rfl oneB ?_
            replace RX:=(setRow_other q26 gY gX #[.int .i64 fl,.int .i64 fa,.int .i64 fw] (by omega)).trans RX
            replace RY:=setRow_heap q26 gY _ (#[.int .i64 fl,.int .i64 fa,.int .i64 fw]) _ _ RY
            replace hbr:=below_setRow hbr (show wr.heap.size≤gY by omega) #[.int .i64 fl,.int .i64 fa,.int .i64 fw]
            have HS':(fun W:World=>W.rangeAt b (off+k*5) [.int .i64 no,.int .i64 kd,.int .u64 l,.int .u64 mo,.slice so sn sc]∧W.rangeAt fb (k*4) [.int .i64 fno,.int .i64 fty,.int .u64 (fnum:Int),.slice fda fdl fdc]) _:=⟨mv_rangeY HS.1 (setRow_other q26 gY b #[.int .i64 fl,.int .i64 fa,.int .i64 fw] (by omega)),mv_rangeY HS.2 (setRow_other q26 gY fb #[.int .i64 fl,.int .i64 fa,.int .i64 fw] (by omega))⟩
            replace HS:=HS';clear HS';refine hK_ _ _ HS ?_;simp only[Act.put,List.getElem_toArray,List.getElem_cons_succ,List.getElem_cons_zero];clear hK_
            generalize q26.setRow gY #[.int .i64 fl,.int .i64 fa,.int .i64 fw]=q27 at *
            refine wpAnyH_done (by kernel_rfl) ?_ _
            exact key_ gX gY q27 ⟨hbr,RX,RY,by omega,by omega,by omega⟩
         rintro gX gY z0 ⟨hbr,RX,RY,hgx_,hgy_,hgn_⟩;have cW:=cell_of_row _ _ 2 _ _ _ RY;have hbz:=hbr.size;have R6:=keep hbr R6r.out;have R7:=keep hbr R7r.out
         have hW:=hWr.out.trans (hbr.mono (by omega))
         clear RX;have l6:=lt_of_row R6;have l7:=lt_of_row R7
         go_upto_region 18 with(fail)
         clear cW;have hbd:Below z0.heap.size z0 z0.drew:=below_drN (Below.refl _ _) 1;replace RY:=keep hbd RY;replace R6:=keep hbd R6;replace R7:=keep hbd R7;replace hW:=Below.after hW hbd;clear hbd
         refine wp_region_held (S:=fun W:World=>W.heap[gY]? =some (.cells #[.int .i64 fl,.int .i64 fa,.int .i64 fw] 41 (0,0))) (by kernel_rfl) ?_
         change wpAnyH _ _ _ _ _ _ _ _ (World.drew _)
         generalize z0.drew=z1 at *
         refine wpAnyH_take (i:=0) (v:=.agg #[.int .u64 0,.slice none 0 0,.slice none 0 0]) rfl (by kernel_rfl) (by kernel_rfl) (by kernel_rfl) (fun _ _ _ h=>h) (Or.inl ⟨by rfl,?y40⟩) RY ?r40
         case y40=>
          intro w_ hS_;go_simp
          try with_reducible rfl
         simp only[Act.put,List.getElem_toArray,List.getElem_cons_zero,List.setIfInBounds_toArray,List.set_cons_succ,List.set_cons_zero]
         refine wpAnyH_take (i:=1) (v:=.agg #[.int .i64 fl,.int .i64 fa,.int .i64 fw]) rfl (by kernel_rfl) (by kernel_rfl) (by kernel_rfl) (fun _ _ _ h=>h) (yieldsIf_load_mid (by rfl) 41 _ rfl gY 0 rfl [.int .i64 fl,.int .i64 fa,.int .i64 fw] _ (fun _ h=>range_row ⟨_,h⟩) Tryz.underlying41 rfl infoFt) RY ?_
         simp only[Act.put,List.getElem_toArray,List.getElem_cons_succ,List.getElem_cons_zero,List.setIfInBounds_toArray,List.set_cons_succ,List.set_cons_zero]
         refine wpAnyH_one (k:=2) (fuel:=1) (by kernel_rfl) rfl (by kernel_rfl) (fun K_ hK_=>?_)
         refine wp_store_row 27 _ _ rfl (w.heap.size) #[.int .u64 0,.slice none 0 0,.slice none 0 0] rfl rfl 27 _ R6 infoV rfl oneA ?_
         replace RY:=(setRow_other z1 (w.heap.size) gY #[.int .u64 0,.slice none 0 0,.slice none 0 0] (by omega)).trans RY
         replace R7:=(setRow_other z1 (w.heap.size) (w.heap.size+1) #[.int .u64 0,.slice none 0 0,.slice none 0 0] (by omega)).trans R7
         replace R6:=setRow_heap z1 (w.heap.size) _ (#[.int .u64 0,.slice none 0 0,.slice none 0 0]) _ _ R6
         replace hW:=below_setRow hW (show w.heap.size≤w.heap.size by omega) #[.int .u64 0,.slice none 0 0,.slice none 0 0]
         refine hK_ _ _ RY ?_;simp only[Act.put,List.getElem_toArray,List.getElem_cons_succ,List.getElem_cons_zero];clear hK_
         generalize z1.setRow (w.heap.size) #[.int .u64 0,.slice none 0 0,.slice none 0 0]=z2 at *
         refine wpAnyH_one (k:=3) (fuel:=0) (by kernel_rfl) rfl (by kernel_rfl) (fun K_ hK_=>?_)
         refine wp_store_row 41 _ _ rfl (w.heap.size+1) #[.int .i64 fl,.int .i64 fa,.int .i64 fw] rfl rfl 41 _ R7 infoFt rfl oneB ?_
         replace RY:=(setRow_other z2 (w.heap.size+1) gY #[.int .i64 fl,.int .i64 fa,.int .i64 fw] (by omega)).trans RY
         replace R6:=(setRow_other z2 (w.heap.size+1) (w.heap.size) #[.int .i64 fl,.int .i64 fa,.int .i64 fw] (by omega)).trans R6
         replace R7:=setRow_heap z2 (w.heap.size+1) _ (#[.int .i64 fl,.int .i64 fa,.int .i64 fw]) _ _ R7
         replace hW:=below_setRow hW (show w.heap.size≤w.heap.size+1 by omega) #[.int .i64 fl,.int .i64 fa,.int .i64 fw]
         refine hK_ _ _ RY ?_;simp only[Act.put,List.getElem_toArray,List.getElem_cons_succ,List.getElem_cons_zero];clear hK_
         refine wpAnyH_done (by kernel_rfl) ?_ _
         go_wp2_with (fail)
         exact bodyPost_ret (v:=.tuple #[.agg #[.int .u64 0,.slice none 0 0,.slice none 0 0],.agg #[.int .i64 fl,.int .i64 fa,.int .i64 fw]]) (results_cell_cell Tryz.results39 _ _ (w.heap.size) (w.heap.size+1) _ _ _ _ _ _ _ _ rfl R6 Tryz.underlying27 rfl infoV rfl R7 Tryz.underlying41 rfl infoFt) rfl (by unfold VaQ;rw[hR.out,eR.out];exact⟨rfl,hW⟩)
        |none=>
         have eR:Hid (R=dcT utD flD (ts.drop (k+1)) (fs.drop (k+1)) EN):=hide eR2.out
         have cV:=hide (fun V (hV:Below wr.heap.size wr V)=>(cVl.out V hV).mono (fun e w' h=>(by obtain⟨⟨x,h1,h3⟩,h2⟩:=h;exact⟨_,h1,⟨x,rfl,h3⟩,h2⟩:∃v,e=.returned v∧(∃x,v=.tuple #[.agg (vrv x),.agg #[.int .i64 0,.int .i64 0,.int .i64 0]]∧VtO w' (fun b=>(w0.heap.size≤b∧b<y.heap.size)∨V.heap.size≤b) x X)∧Below V.heap.size V w')))
         have oneB:(#[Value.int .i64 0,.int .i64 0,.int .i64 0]:Array Value).all (·.oneCell')=true:=by simp[Value.oneCell']
         clear cVl eR2
         go_upto_region 16 with(fail)
         rw[qEN.out];have hbd:Below a5.heap.size a5 a5.drew:=below_drN (Below.refl _ _) 1
         have HS':(fun W:World=>W.rangeAt b (off+k*5) [.int .i64 no,.int .i64 kd,.int .u64 l,.int .u64 mo,.slice so sn sc]∧W.rangeAt fb (k*4) [.int .i64 fno,.int .i64 fty,.int .u64 (fnum:Int),.slice fda fdl fdc]) _:=⟨rangeS_keep2 HS.1 hbd (by have:=hbr.size;omega),rangeS_keep2 HS.2 hbd (by have:=hbr.size;omega)⟩
         replace HS:=HS';clear HS';replace hbr:=Below.after hbr hbd;clear hbd
         refine wp_region_held (S:=fun W:World=>W.rangeAt b (off+k*5) [.int .i64 no,.int .i64 kd,.int .u64 l,.int .u64 mo,.slice so sn sc]∧W.rangeAt fb (k*4) [.int .i64 fno,.int .i64 fty,.int .u64 (fnum:Int),.slice fda fdl fdc]) (by kernel_rfl) ?_
         change wpAnyH _ _ _ _ _ _ _ _ (World.drew _)
         generalize a5.drew=a6 at *
         refine wpAnyH_take (i:=0) (v:=?v42) rfl (by kernel_rfl) (by kernel_rfl) (by kernel_rfl) (fun _ _ _ h=>h) (Or.inl ⟨by rfl,?y42⟩) HS ?r42
         case y42=>
          intro w_ hS_;go_simp
          try with_reducible rfl
         simp only[Act.put,List.getElem_toArray,List.getElem_cons_zero,List.setIfInBounds_toArray,List.set_cons_succ,List.set_cons_zero]
         refine wpAnyH_take (i:=1) (v:=?v43) rfl (by kernel_rfl) (by kernel_rfl) (by kernel_rfl) (fun _ _ _ h=>h) (Or.inl ⟨by rfl,?y43⟩) HS ?r43
         case y43=>
          intro w_ hS_;go_simp
          try with_reducible rfl
         simp only[Act.put,List.getElem_toArray,List.getElem_cons_succ,List.getElem_cons_zero,List.setIfInBounds_toArray,List.set_cons_succ,List.set_cons_zero]
         refine wpAnyH_take (i:=2) (v:=?v44) rfl (by kernel_rfl) (by kernel_rfl) (by kernel_rfl) (fun _ _ _ h=>h) (Or.inl ⟨by rfl,?y44⟩) HS ?r44
         case y44=>
          intro w_ hS_;go_simp
          try with_reducible rfl
         simp only[Act.put,List.getElem_toArray,List.getElem_cons_succ,List.getElem_cons_zero,List.setIfInBounds_toArray,List.set_cons_succ,List.set_cons_zero]
         refine wpAnyH_take (i:=3) (v:=.agg #[.int .i64 no,.int .i64 kd,.int .u64 l,.int .u64 mo,.slice so sn sc]) rfl (by kernel_rfl) (by kernel_rfl) (by kernel_rfl) (fun _ _ _ h=>h) (yieldsIf_load_mid (by rfl) 88 _ rfl b (off+k*5) rfl [.int .i64 no,.int .i64 kd,.int .u64 l,.int .u64 mo,.slice so sn sc] _ (fun _ h=>h.1) Tryz.underlying88 rfl infoSlt) HS ?_
         simp only[Act.put,List.getElem_toArray,List.getElem_cons_succ,List.getElem_cons_zero,List.setIfInBounds_toArray,List.set_cons_succ,List.set_cons_zero]
         refine wpAnyH_take (i:=4) (v:=?v46) rfl (by kernel_rfl) (by kernel_rfl) (by kernel_rfl) (fun _ _ _ h=>h) (Or.inl ⟨by rfl,?y46⟩) HS ?r46
         case y46=>
          intro w_ hS_;go_simp
          try with_reducible rfl
         simp only[Act.put,List.getElem_toArray,List.getElem_cons_succ,List.getElem_cons_zero,List.setIfInBounds_toArray,List.set_cons_succ,List.set_cons_zero]
         refine wpAnyH_take (i:=5) (v:=?v47) rfl (by kernel_rfl) (by kernel_rfl) (by kernel_rfl) (fun _ _ _ h=>h) (Or.inl ⟨by rfl,?y47⟩) HS ?r47
         case y47=>
          intro w_ hS_;go_simp
          try with_reducible rfl
         simp only[Act.put,List.getElem_toArray,List.getElem_cons_succ,List.getElem_cons_zero,List.setIfInBounds_toArray,List.set_cons_succ,List.set_cons_zero]
         refine wpAnyH_take (i:=6) (v:=?v48) rfl (by kernel_rfl) (by kernel_rfl) (by kernel_rfl) (fun _ _ _ h=>h) (Or.inl ⟨by rfl,?y48⟩) HS ?r48
         case y48=>
          intro w_ hS_;go_simp
          try with_reducible rfl
         simp only[Act.put,List.getElem_toArray,List.getElem_cons_succ,List.getElem_cons_zero,List.setIfInBounds_toArray,List.set_cons_succ,List.set_cons_zero]
         refine wpAnyH_take (i:=7) (v:=.agg #[.int .i64 fno,.int .i64 fty,.int .u64 (fnum:Int),.slice fda fdl fdc]) rfl (by kernel_rfl) (by kernel_rfl) (by kernel_rfl) (fun _ _ _ h=>h) (yieldsIf_load_mid (by rfl) 118 _ rfl fb (k*4) rfl [.int .i64 fno,.int .i64 fty,.int .u64 (fnum:Int),.slice fda fdl fdc] _ (fun _ h=>h.2) Tryz.underlying118 rfl infoFi) HS ?_
         simp only[Act.put,List.getElem_toArray,List.getElem_cons_succ,List.getElem_cons_zero,List.setIfInBounds_toArray,List.set_cons_succ,List.set_cons_zero]
         refine wpAnyH_take (i:=8) (v:=?v50) rfl (by kernel_rfl) (by kernel_rfl) (by kernel_rfl) (fun _ _ _ h=>h) (Or.inl ⟨by rfl,?y50⟩) HS ?r50
         case y50=>
          intro w_ hS_;go_simp
          try with_reducible rfl
         simp only[Act.put,List.getElem_toArray,List.getElem_cons_succ,List.getElem_cons_zero,List.setIfInBounds_toArray,List.set_cons_succ,List.set_cons_zero]
         refine wpAnyH_take (i:=9) (v:=?v51) rfl (by kernel_rfl) (by kernel_rfl) (by kernel_rfl) (fun _ _ _ h=>h) (Or.inl ⟨by rfl,?y51⟩) HS ?r51
         case y51=>
          intro w_ hS_;go_simp
          try with_reducible rfl
         simp only[Act.put,List.getElem_toArray,List.getElem_cons_succ,List.getElem_cons_zero,List.setIfInBounds_toArray,List.set_cons_succ,List.set_cons_zero]
         refine wpAnyH_take (i:=10) (v:=?v52) rfl (by kernel_rfl) (by kernel_rfl) (by kernel_rfl) (fun _ _ _ h=>h) (Or.inl ⟨by rfl,?y52⟩) HS ?r52
         case y52=>
          intro w_ hS_;go_simp
          try with_reducible rfl
         simp only[Act.put,List.getElem_toArray,List.getElem_cons_succ,List.getElem_cons_zero,List.setIfInBounds_toArray,List.set_cons_succ,List.set_cons_zero]
         refine wpAnyH_take (i:=11) (v:=?v53) rfl (by kernel_rfl) (by kernel_rfl) (by kernel_rfl) (fun _ _ _ h=>h) (Or.inl ⟨by rfl,?y53⟩) HS ?r53
         case y53=>
          intro w_ hS_;go_simp
          try with_reducible rfl
         simp only[Act.put,List.getElem_toArray,List.getElem_cons_succ,List.getElem_cons_zero,List.setIfInBounds_toArray,List.set_cons_succ,List.set_cons_zero]
         refine wpAnyH_take (i:=12) (v:=?v54) rfl (by kernel_rfl) (by kernel_rfl) (by kernel_rfl) (fun _ _ _ h=>h) (Or.inl ⟨by rfl,?y54⟩) HS ?r54
         case y54=>
          intro w_ hS_;go_simp
          try with_reducible rfl
         simp only[Act.put,List.getElem_toArray,List.getElem_cons_succ,List.getElem_cons_zero,List.setIfInBounds_toArray,List.set_cons_succ,List.set_cons_zero]
         refine wpAnyH_take (i:=13) (v:=?v55) rfl (by kernel_rfl) (by kernel_rfl) (by kernel_rfl) (fun _ _ _ h=>h) (Or.inl ⟨by rfl,?y55⟩) HS ?r55
         case y55=>
          intro w_ hS_;go_simp
          try with_reducible rfl
         simp only[Act.put,List.getElem_toArray,List.getElem_cons_succ,List.getElem_cons_zero,List.setIfInBounds_toArray,List.set_cons_succ,List.set_cons_zero]
         refine wpAnyH_take (i:=14) (v:=.slice fda fdl fdc) rfl (by kernel_rfl) (by kernel_rfl) (by kernel_rfl) (fun _ _ _ h=>h) (Or.inl ⟨by rfl,?y56⟩) HS ?r56
         case y56=>
          intro w_ hS_;have c_:w_.cell? ⟨fb,k*4+3,none⟩=some (.slice fda fdl fdc):=hS_.2 3 _ rfl;go_simp
          try with_reducible rfl
         simp only[Act.put,List.getElem_toArray,List.getElem_cons_succ,List.getElem_cons_zero,List.setIfInBounds_toArray,List.set_cons_succ,List.set_cons_zero]
         refine wpAnyH_take (i:=15) (v:=?v57) rfl (by kernel_rfl) (by kernel_rfl) (by kernel_rfl) (fun _ _ _ h=>h) (Or.inl ⟨by rfl,?y57⟩) HS ?r57
         case y57=>
          intro w_ hS_;go_simp
          try with_reducible rfl
         simp only[Act.put,List.getElem_toArray,List.getElem_cons_succ,List.getElem_cons_zero,List.setIfInBounds_toArray,List.set_cons_succ,List.set_cons_zero]
         refine wpAnyH_take (i:=16) (v:=.int .i64 (EN-(fdl:Int))) rfl (by kernel_rfl) (by kernel_rfl) (by kernel_rfl) (fun _ _ _ h=>h) (Or.inl ⟨by rfl,?y58⟩) HS ?r58
         case y58=>
          intro w_ hS_;go_simp
          try with_reducible rfl
         simp only[Act.put,List.getElem_toArray,List.getElem_cons_succ,List.getElem_cons_zero,List.setIfInBounds_toArray,List.set_cons_succ,List.set_cons_zero]
         apply ecutQ3 (fun(x:VR) (gX gY:Nat) (W:World)=>Below wr.heap.size wr W∧W.heap[gX]? =some (.cells (vrv x) 27 (0,0))∧W.heap[gY]? =some (.cells #[.int .i64 0,.int .i64 0,.int .i64 0] 41 (0,0))∧wr.heap.size≤gX∧wr.heap.size≤gY∧gX≠gY∧VtO W (fun b=>(w0.heap.size≤b∧b≠y.heap.size)∧(Value.slice pva k pvc).ownBlock≠some b) x X)
         ·intro key_
          refine wpAnyH_threeY (j:=17) (k:=21) (l:=22) (fuel:=7) (by kernel_rfl) rfl rfl rfl (by kernel_rfl) (by kernel_rfl) (by kernel_rfl) (fun K_ hK_=>?_) (fun K_ hK_=>?_) (fun K_ hK_=>?_)
          ·have hcL:=hbr.size
           refine wp_call_ex (f:=63) (R:=fun u w'=>(∃x,u=.tuple #[.agg (vrv x),.agg #[.int .i64 0,.int .i64 0,.int .i64 0]]∧VtO w' (fun b=>(w0.heap.size≤b∧b<y.heap.size)∨a6.heap.size≤b) x X)∧Below a6.heap.size a6 w') (by kernel_rfl) (cV.out a6 hbr) (fun v_ q28 hX_=>?_)
           obtain⟨⟨x,rfl,hvt⟩,hb_⟩:=hX_
           have oneA:(vrv x).all (·.oneCell')=true:=by simp[vrv,vrw,Value.oneCell']
           have hcw:q28.heap.size≤q28.heap.size:=Nat.le_refl _;replace hvt:=vtm_upto hvt;have hcH:=hb_.size
           have HS':(fun W:World=>W.rangeAt b (off+k*5) [.int .i64 no,.int .i64 kd,.int .u64 l,.int .u64 mo,.slice so sn sc]∧W.rangeAt fb (k*4) [.int .i64 fno,.int .i64 fty,.int .u64 (fnum:Int),.slice fda fdl fdc]) _:=⟨rangeS_keep2 HS.1 hb_ (by have:=hbr.size;omega),rangeS_keep2 HS.2 hb_ (by have:=hbr.size;omega)⟩
           replace HS:=HS';clear HS';replace hbr:=Below.after hbr hb_;clear hb_;refine hK_ _ _ HS ?_;simp only[Act.put,List.getElem_toArray,List.getElem_cons_succ,List.getElem_cons_zero,List.setIfInBounds_toArray,List.set_cons_succ,List.set_cons_zero];clear hK_
           refine wpAnyH_take (i:=18) (v:=?v59) rfl (by kernel_rfl) (by kernel_rfl) (by kernel_rfl) (fun _ _ _ h=>h) (Or.inl ⟨by rfl,?y59⟩) HS ?r59
           case y59=>
            intro w_ hS_;go_simp
            try with_reducible rfl
           simp only[Act.put,List.getElem_toArray,List.getElem_cons_succ,List.getElem_cons_zero,List.setIfInBounds_toArray,List.set_cons_succ,List.set_cons_zero]
           refine wpAnyH_take (i:=19) (v:=?v60) rfl (by kernel_rfl) (by kernel_rfl) (by kernel_rfl) (fun _ _ _ h=>h) (Or.inl ⟨by rfl,?y60⟩) HS ?r60
           case y60=>
            intro w_ hS_;go_simp
            try with_reducible rfl
           simp only[Act.put,List.getElem_toArray,List.getElem_cons_succ,List.getElem_cons_zero,List.setIfInBounds_toArray,List.set_cons_succ,List.set_cons_zero]
           refine wpAnyH_take (i:=20) (v:=?v61) rfl (by kernel_rfl) (by kernel_rfl) (by kernel_rfl) (fun _ _ _ h=>h) (Or.inl ⟨by rfl,?y61⟩) HS ?r61
           case y61=>
            intro w_ hS_;go_simp
            try with_reducible rfl
           simp only[Act.put,List.getElem_toArray,List.getElem_cons_succ,List.getElem_cons_zero,List.setIfInBounds_toArray,List.set_cons_succ,List.set_cons_zero]
           refine wpAnyH_two (j:=21) (k:=22) (fuel:=3) (by kernel_rfl) rfl rfl (by kernel_rfl) (by kernel_rfl) (fun K_ hK_=>?_) (fun K_ hK_=>?_)
           ·refine wp_world_op (.pointer (some ⟨q28.heap.size,0,none⟩)) (q28.alloc (.cells #[.int .u64 0,.slice none 0 0,.slice none 0 0] 27)) (by kernel_rfl) ?_
            have hb_:Below q28.heap.size q28 (q28.alloc (.cells #[.int .u64 0,.slice none 0 0,.slice none 0 0] 27)):=(Below.refl _ _).alloc (Nat.le_refl _) _
            have lo_gX:wr.heap.size≤q28.heap.size:=hbr.size;have lh_gX:=hcw;have RX:=hp1_0 q28 (.cells #[.int .u64 0,.slice none 0 0,.slice none 0 0] 27);replace hvt:=hvt.blw hb_;replace hcw:=Nat.le_trans hcw hb_.size
            have HS':(fun W:World=>W.rangeAt b (off+k*5) [.int .i64 no,.int .i64 kd,.int .u64 l,.int .u64 mo,.slice so sn sc]∧W.rangeAt fb (k*4) [.int .i64 fno,.int .i64 fty,.int .u64 (fnum:Int),.slice fda fdl fdc]) _:=⟨rangeS_keep2 HS.1 hb_ (by have:=hbr.size;omega),rangeS_keep2 HS.2 hb_ (by have:=hbr.size;omega)⟩
            replace HS:=HS';clear HS';replace hbr:=Below.after hbr hb_;clear hb_;refine hK_ _ _ HS ?_;simp only[Act.put,List.getElem_toArray,List.getElem_cons_succ,List.getElem_cons_zero,List.setIfInBounds_toArray,List.set_cons_succ,List.set_cons_zero];clear hK_
            generalize q28.alloc (.cells #[.int .u64 0,.slice none 0 0,.slice none 0 0] 27)=q29 at *
            generalize q28.heap.size=gX at *
            refine wpAnyH_one (k:=22) (fuel:=2) (by kernel_rfl) rfl (by kernel_rfl) (fun K_ hK_=>?_)
            refine wp_world_op (.pointer (some ⟨q29.heap.size,0,none⟩)) (q29.alloc (.cells #[.int .i64 0,.int .i64 0,.int .i64 0] 41)) (by kernel_rfl) ?_
            have hb_:Below q29.heap.size q29 (q29.alloc (.cells #[.int .i64 0,.int .i64 0,.int .i64 0] 41)):=(Below.refl _ _).alloc (Nat.le_refl _) _;have lo_gY:wr.heap.size≤q29.heap.size:=hbr.size;have lt_RX_gY:=lt_of_row RX;have lh_gY:=hcw;have RY:=hp1_0 q29 (.cells #[.int .i64 0,.int .i64 0,.int .i64 0] 41);replace RX:=keep hb_ RX;replace hvt:=hvt.blw hb_;replace hcw:=Nat.le_trans hcw hb_.size
            have HS':(fun W:World=>W.rangeAt b (off+k*5) [.int .i64 no,.int .i64 kd,.int .u64 l,.int .u64 mo,.slice so sn sc]∧W.rangeAt fb (k*4) [.int .i64 fno,.int .i64 fty,.int .u64 (fnum:Int),.slice fda fdl fdc]) _:=⟨rangeS_keep2 HS.1 hb_ (by have:=hbr.size;omega),rangeS_keep2 HS.2 hb_ (by have:=hbr.size;omega)⟩
            replace HS:=HS';clear HS';replace hbr:=Below.after hbr hb_;clear hb_;refine hK_ _ _ HS ?_;simp only[Act.put,List.getElem_toArray,List.getElem_cons_succ,List.getElem_cons_zero,List.setIfInBounds_toArray,List.set_cons_succ,List.set_cons_zero];clear hK_
            generalize q29.alloc (.cells #[.int .i64 0,.int .i64 0,.int .i64 0] 41)=q30 at *
            generalize q29.heap.size=gY at *
            refine wpAnyH_one (k:=23) (fuel:=1) (by kernel_rfl) rfl (by kernel_rfl) (fun K_ hK_=>?_)
            refine wp_store_row 27 _ _ rfl gX (vrv x) rfl rfl 27 _ RX infoV rfl oneA ?_
            replace RY:=(setRow_other q30 gX gY (vrv x) (by omega)).trans RY
            replace hvt:=hvt.other gX (vrv x) (fun b hb_=>⟨by omega,hb_⟩)
            replace RX:=setRow_heap q30 gX _ ((vrv x)) _ _ RX
            replace hbr:=below_setRow hbr (show wr.heap.size≤gX by omega) (vrv x)
            have HS':(fun W:World=>W.rangeAt b (off+k*5) [.int .i64 no,.int .i64 kd,.int .u64 l,.int .u64 mo,.slice so sn sc]∧W.rangeAt fb (k*4) [.int .i64 fno,.int .i64 fty,.int .u64 (fnum:Int),.slice fda fdl fdc]) _:=⟨mv_rangeY HS.1 (setRow_other q30 gX b (vrv x) (by omega)),mv_rangeY HS.2 (setRow_other q30 gX fb (vrv x) (by omega))⟩
            replace HS:=HS';clear HS'
            have hse:(q30.setRow gX (vrv x)).heap.size=q30.heap.size:=by simp[World.setRow]
            rw[←hse] at hcw;clear hse;refine hK_ _ _ HS ?_;simp only[Act.put,List.getElem_toArray,List.getElem_cons_succ,List.getElem_cons_zero];clear hK_
            generalize q30.setRow gX (vrv x)=q31 at *
            refine wpAnyH_one (k:=24) (fuel:=0) (by kernel_rfl) rfl (by kernel_rfl) (fun K_ hK_=>?_)
            refine wp_store_row 41 _ _ rfl gY #[.int .i64 0,.int .i64 0,.int .i64 0] rfl rfl 41 _ RY infoFt rfl oneB ?_
            replace RX:=(setRow_other q31 gY gX #[.int .i64 0,.int .i64 0,.int .i64 0] (by omega)).trans RX
            replace hvt:=hvt.other gY #[.int .i64 0,.int .i64 0,.int .i64 0] (fun b hb_=>⟨by omega,hb_⟩)
            replace RY:=setRow_heap q31 gY _ (#[.int .i64 0,.int .i64 0,.int .i64 0]) _ _ RY
            replace hbr:=below_setRow hbr (show wr.heap.size≤gY by omega) #[.int .i64 0,.int .i64 0,.int .i64 0]
            have HS':(fun W:World=>W.rangeAt b (off+k*5) [.int .i64 no,.int .i64 kd,.int .u64 l,.int .u64 mo,.slice so sn sc]∧W.rangeAt fb (k*4) [.int .i64 fno,.int .i64 fty,.int .u64 (fnum:Int),.slice fda fdl fdc]) _:=⟨mv_rangeY HS.1 (setRow_other q31 gY b #[.int .i64 0,.int .i64 0,.int .i64 0] (by omega)),mv_rangeY HS.2 (setRow_other q31 gY fb #[.int .i64 0,.int .i64 0,.int .i64 0] (by omega))⟩
            replace HS:=HS';clear HS'
            have hse:(q31.setRow gY #[.int .i64 0,.int .i64 0,.int .i64 0]).heap.size=q31.heap.size:=by simp[World.setRow]
            rw[←hse] at hcw;clear hse;refine hK_ _ _ HS ?_;simp only[Act.put,List.getElem_toArray,List.getElem_cons_succ,List.getElem_cons_zero];clear hK_
            generalize q31.setRow gY #[.int .i64 0,.int .i64 0,.int .i64 0]=q32 at *
            refine wpAnyH_done (by kernel_rfl) ?_ _
            exact key_ x gX gY q32 ⟨hbr,RX,RY,by omega,by omega,by omega,hvt.wid (fun b hb_=>⟨⟨by omega,by omega⟩,fun e=>by have:=hpor b e;omega⟩)⟩
           ·refine wp_world_op (.pointer (some ⟨q28.heap.size,0,none⟩)) (q28.alloc (.cells #[.int .i64 0,.int .i64 0,.int .i64 0] 41)) (by kernel_rfl) ?_
            have hb_:Below q28.heap.size q28 (q28.alloc (.cells #[.int .i64 0,.int .i64 0,.int .i64 0] 41)):=(Below.refl _ _).alloc (Nat.le_refl _) _
            have lo_gY:wr.heap.size≤q28.heap.size:=hbr.size;have lh_gY:=hcw;have RY:=hp1_0 q28 (.cells #[.int .i64 0,.int .i64 0,.int .i64 0] 41);replace hvt:=hvt.blw hb_;replace hcw:=Nat.le_trans hcw hb_.size
            have HS':(fun W:World=>W.rangeAt b (off+k*5) [.int .i64 no,.int .i64 kd,.int .u64 l,.int .u64 mo,.slice so sn sc]∧W.rangeAt fb (k*4) [.int .i64 fno,.int .i64 fty,.int .u64 (fnum:Int),.slice fda fdl fdc]) _:=⟨rangeS_keep2 HS.1 hb_ (by have:=hbr.size;omega),rangeS_keep2 HS.2 hb_ (by have:=hbr.size;omega)⟩
            replace HS:=HS';clear HS';replace hbr:=Below.after hbr hb_;clear hb_;refine hK_ _ _ HS ?_;simp only[Act.put,List.getElem_toArray,List.getElem_cons_succ,List.getElem_cons_zero,List.setIfInBounds_toArray,List.set_cons_succ,List.set_cons_zero];clear hK_
            generalize q28.alloc (.cells #[.int .i64 0,.int .i64 0,.int .i64 0] 41)=q33 at *
            generalize q28.heap.size=gY at *
            refine wpAnyH_one (k:=21) (fuel:=2) (by kernel_rfl) rfl (by kernel_rfl) (fun K_ hK_=>?_)
            refine wp_world_op (.pointer (some ⟨q33.heap.size,0,none⟩)) (q33.alloc (.cells #[.int .u64 0,.slice none 0 0,.slice none 0 0] 27)) (by kernel_rfl) ?_
            have hb_:Below q33.heap.size q33 (q33.alloc (.cells #[.int .u64 0,.slice none 0 0,.slice none 0 0] 27)):=(Below.refl _ _).alloc (Nat.le_refl _) _;have lo_gX:wr.heap.size≤q33.heap.size:=hbr.size;have lt_RY_gX:=lt_of_row RY;have lh_gX:=hcw;have RX:=hp1_0 q33 (.cells #[.int .u64 0,.slice none 0 0,.slice none 0 0] 27);replace RY:=keep hb_ RY;replace hvt:=hvt.blw hb_;replace hcw:=Nat.le_trans hcw hb_.size
            have HS':(fun W:World=>W.rangeAt b (off+k*5) [.int .i64 no,.int .i64 kd,.int .u64 l,.int .u64 mo,.slice so sn sc]∧W.rangeAt fb (k*4) [.int .i64 fno,.int .i64 fty,.int .u64 (fnum:Int),.slice fda fdl fdc]) _:=⟨rangeS_keep2 HS.1 hb_ (by have:=hbr.size;omega),rangeS_keep2 HS.2 hb_ (by have:=hbr.size;omega)⟩
            replace HS:=HS';clear HS';replace hbr:=Below.after hbr hb_;clear hb_;refine hK_ _ _ HS ?_;simp only[Act.put,List.getElem_toArray,List.getElem_cons_succ,List.getElem_cons_zero,List.setIfInBounds_toArray,List.set_cons_succ,List.set_cons_zero];clear hK_
            generalize q33.alloc (.cells #[.int .u64 0,.slice none 0 0,.slice none 0 0] 27)=q34 at *
            generalize q33.heap.size=gX at *
            refine wpAnyH_one (k:=23) (fuel:=1) (by kernel_rfl) rfl (by kernel_rfl) (fun K_ hK_=>?_)
            refine wp_store_row 27 _ _ rfl gX (vrv x) rfl rfl 27 _ RX infoV rfl oneA ?_
            replace RY:=(setRow_other q34 gX gY (vrv x) (by omega)).trans RY
            replace hvt:=hvt.other gX (vrv x) (fun b hb_=>⟨by omega,hb_⟩)
            replace RX:=setRow_heap q34 gX _ ((vrv x)) _ _ RX
            replace hbr:=below_setRow hbr (show wr.heap.size≤gX by omega) (vrv x)
            have HS':(fun W:World=>W.rangeAt b (off+k*5) [.int .i64 no,.int .i64 kd,.int .u64 l,.int .u64 mo,.slice so sn sc]∧W.rangeAt fb (k*4) [.int .i64 fno,.int .i64 fty,.int .u64 (fnum:Int),.slice fda fdl fdc]) _:=⟨mv_rangeY HS.1 (setRow_other q34 gX b (vrv x) (by omega)),mv_rangeY HS.2 (setRow_other q34 gX fb (vrv x) (by omega))⟩
            replace HS:=HS';clear HS'
            have hse:(q34.setRow gX (vrv x)).heap.size=q34.heap.size:=by simp[World.setRow]
            rw[←hse] at hcw;clear hse;refine hK_ _ _ HS ?_;simp only[Act.put,List.getElem_toArray,List.getElem_cons_succ,List.getElem_cons_zero];clear hK_
            generalize q34.setRow gX (vrv x)=q35 at *
            refine wpAnyH_one (k:=24) (fuel:=0) (by kernel_rfl) rfl (by kernel_rfl) (fun K_ hK_=>?_)
            refine wp_store_row 41 _ _ rfl gY #[.int .i64 0,.int .i64 0,.int .i64 0] rfl rfl 41 _ RY infoFt rfl oneB ?_
            replace RX:=(setRow_other q35 gY gX #[.int .i64 0,.int .i64 0,.int .i64 0] (by omega)).trans RX
            replace hvt:=hvt.other gY #[.int .i64 0,.int .i64 0,.int .i64 0] (fun b hb_=>⟨by omega,hb_⟩)
            replace RY:=setRow_heap q35 gY _ (#[.int .i64 0,.int .i64 0,.int .i64 0]) _ _ RY
            replace hbr:=below_setRow hbr (show wr.heap.size≤gY by omega) #[.int .i64 0,.int .i64 0,.int .i64 0]
            have HS':(fun W:World=>W.rangeAt b (off+k*5) [.int .i64 no,.int .i64 kd,.int .u64 l,.int .u64 mo,.slice so sn sc]∧W.rangeAt fb (k*4) [.int .i64 fno,.int .i64 fty,.int .u64 (fnum:Int),.slice fda fdl fdc]) _:=⟨mv_rangeY HS.1 (setRow_other q35 gY b #[.int .i64 0,.int .i64 0,.int .i64 0] (by omega)),mv_rangeY HS.2 (setRow_other q35 gY fb #[.int .i64 0,.int .i64 0,.int .i64 0] (by omega))⟩
            replace HS:=HS';clear HS'
            have hse:(q35.setRow gY #[.int .i64 0,.int .i64 0,.int .i64 0]).heap.size=q35.heap.size:=by simp[World.setRow]
            rw[←hse] at hcw;clear hse;refine hK_ _ _ HS ?_;simp only[Act.put,List.getElem_toArray,List.getElem_cons_succ,List.getElem_cons_zero];clear hK_
            generalize q35.setRow gY #[.int .i64 0,.int .i64 0,.int .i64 0]=q36 at *
            refine wpAnyH_done (by kernel_rfl) ?_ _
            exact key_ x gX gY q36 ⟨hbr,RX,RY,by omega,by omega,by omega,hvt.wid (fun b hb_=>⟨⟨by omega,by omega⟩,fun e=>by have:=hpor b e;omega⟩)⟩
          ·refine wp_world_op (.pointer (some ⟨a6.heap.size,0,none⟩)) (a6.alloc (.cells #[.int .u64 0,.slice none 0 0,.slice none 0 0] 27)) (by kernel_rfl) ?_
           have hb_:Below a6.heap.size a6 (a6.alloc (.cells #[.int .u64 0,.slice none 0 0,.slice none 0 0] 27)):=(Below.refl _ _).alloc (Nat.le_refl _) _
           have lo_gX:wr.heap.size≤a6.heap.size:=hbr.size;have RX:=hp1_0 a6 (.cells #[.int .u64 0,.slice none 0 0,.slice none 0 0] 27)
           have HS':(fun W:World=>W.rangeAt b (off+k*5) [.int .i64 no,.int .i64 kd,.int .u64 l,.int .u64 mo,.slice so sn sc]∧W.rangeAt fb (k*4) [.int .i64 fno,.int .i64 fty,.int .u64 (fnum:Int),.slice fda fdl fdc]) _:=⟨rangeS_keep2 HS.1 hb_ (by have:=hbr.size;omega),rangeS_keep2 HS.2 hb_ (by have:=hbr.size;omega)⟩
           replace HS:=HS';clear HS';replace hbr:=Below.after hbr hb_;clear hb_;refine hK_ _ _ HS ?_;simp only[Act.put,List.getElem_toArray,List.getElem_cons_succ,List.getElem_cons_zero,List.setIfInBounds_toArray,List.set_cons_succ,List.set_cons_zero];clear hK_
           generalize a6.alloc (.cells #[.int .u64 0,.slice none 0 0,.slice none 0 0] 27)=q37 at *
           generalize a6.heap.size=gX at *
           refine wpAnyH_two (j:=17) (k:=22) (fuel:=6) (by kernel_rfl) rfl rfl (by kernel_rfl) (by kernel_rfl) (fun K_ hK_=>?_) (fun K_ hK_=>?_)
           ·have lc_gX:=lt_of_row RX
            have hcL:=hbr.size
            refine wp_call_ex (f:=63) (R:=fun u w'=>(∃x,u=.tuple #[.agg (vrv x),.agg #[.int .i64 0,.int .i64 0,.int .i64 0]]∧VtO w' (fun b=>(w0.heap.size≤b∧b<y.heap.size)∨q37.heap.size≤b) x X)∧Below q37.heap.size q37 w') (by kernel_rfl) (cV.out q37 hbr) (fun v_ q38 hX_=>?_)
            obtain⟨⟨x,rfl,hvt⟩,hb_⟩:=hX_
            have oneA:(vrv x).all (·.oneCell')=true:=by simp[vrv,vrw,Value.oneCell']
            have hcw:q38.heap.size≤q38.heap.size:=Nat.le_refl _;replace hvt:=vtm_upto hvt;have hcH:=hb_.size;replace RX:=keep hb_ RX
            have HS':(fun W:World=>W.rangeAt b (off+k*5) [.int .i64 no,.int .i64 kd,.int .u64 l,.int .u64 mo,.slice so sn sc]∧W.rangeAt fb (k*4) [.int .i64 fno,.int .i64 fty,.int .u64 (fnum:Int),.slice fda fdl fdc]) _:=⟨rangeS_keep2 HS.1 hb_ (by have:=hbr.size;omega),rangeS_keep2 HS.2 hb_ (by have:=hbr.size;omega)⟩
            replace HS:=HS';clear HS';replace hbr:=Below.after hbr hb_;clear hb_;refine hK_ _ _ HS ?_;simp only[Act.put,List.getElem_toArray,List.getElem_cons_succ,List.getElem_cons_zero,List.setIfInBounds_toArray,List.set_cons_succ,List.set_cons_zero];clear hK_
            refine wpAnyH_take (i:=18) (v:=?v62) rfl (by kernel_rfl) (by kernel_rfl) (by kernel_rfl) (fun _ _ _ h=>h) (Or.inl ⟨by rfl,?y62⟩) HS ?r62
            case y62=>
             intro w_ hS_;go_simp
             try with_reducible rfl
            simp only[Act.put,List.getElem_toArray,List.getElem_cons_succ,List.getElem_cons_zero,List.setIfInBounds_toArray,List.set_cons_succ,List.set_cons_zero]
            refine wpAnyH_take (i:=19) (v:=?v63) rfl (by kernel_rfl) (by kernel_rfl) (by kernel_rfl) (fun _ _ _ h=>h) (Or.inl ⟨by rfl,?y63⟩) HS ?r63
            case y63=>
             intro w_ hS_;go_simp
             try with_reducible rfl
            simp only[Act.put,List.getElem_toArray,List.getElem_cons_succ,List.getElem_cons_zero,List.setIfInBounds_toArray,List.set_cons_succ,List.set_cons_zero]
            refine wpAnyH_take (i:=20) (v:=?v64) rfl (by kernel_rfl) (by kernel_rfl) (by kernel_rfl) (fun _ _ _ h=>h) (Or.inl ⟨by rfl,?y64⟩) HS ?r64
            case y64=>
             intro w_ hS_;go_simp
             try with_reducible rfl
            simp only[Act.put,List.getElem_toArray,List.getElem_cons_succ,List.getElem_cons_zero,List.setIfInBounds_toArray,List.set_cons_succ,List.set_cons_zero]
            refine wpAnyH_one (k:=22) (fuel:=2) (by kernel_rfl) rfl (by kernel_rfl) (fun K_ hK_=>?_)
            refine wp_world_op (.pointer (some ⟨q38.heap.size,0,none⟩)) (q38.alloc (.cells #[.int .i64 0,.int .i64 0,.int .i64 0] 41)) (by kernel_rfl) ?_
            have hb_:Below q38.heap.size q38 (q38.alloc (.cells #[.int .i64 0,.int .i64 0,.int .i64 0] 41)):=(Below.refl _ _).alloc (Nat.le_refl _) _;have lo_gY:wr.heap.size≤q38.heap.size:=hbr.size;have lt_RX_gY:=lt_of_row RX;have lh_gY:=hcw;have RY:=hp1_0 q38 (.cells #[.int .i64 0,.int .i64 0,.int .i64 0] 41);replace RX:=keep hb_ RX;replace hvt:=hvt.blw hb_;replace hcw:=Nat.le_trans hcw hb_.size
            have HS':(fun W:World=>W.rangeAt b (off+k*5) [.int .i64 no,.int .i64 kd,.int .u64 l,.int .u64 mo,.slice so sn sc]∧W.rangeAt fb (k*4) [.int .i64 fno,.int .i64 fty,.int .u64 (fnum:Int),.slice fda fdl fdc]) _:=⟨rangeS_keep2 HS.1 hb_ (by have:=hbr.size;omega),rangeS_keep2 HS.2 hb_ (by have:=hbr.size;omega)⟩
            replace HS:=HS';clear HS';replace hbr:=Below.after hbr hb_;clear hb_;refine hK_ _ _ HS ?_;simp only[Act.put,List.getElem_toArray,List.getElem_cons_succ,List.getElem_cons_zero,List.setIfInBounds_toArray,List.set_cons_succ,List.set_cons_zero];clear hK_
            generalize q38.alloc (.cells #[.int .i64 0,.int .i64 0,.int .i64 0] 41)=q39 at *
            generalize q38.heap.size=gY at *
            refine wpAnyH_one (k:=23) (fuel:=1) (by kernel_rfl) rfl (by kernel_rfl) (fun K_ hK_=>?_)
            refine wp_store_row 27 _ _ rfl gX (vrv x) rfl rfl 27 _ RX infoV rfl oneA ?_
            replace RY:=(setRow_other q39 gX gY (vrv x) (by omega)).trans RY
            replace hvt:=hvt.other gX (vrv x) (fun b hb_=>⟨by omega,hb_⟩)
            replace RX:=setRow_heap q39 gX _ ((vrv x)) _ _ RX
            replace hbr:=below_setRow hbr (show wr.heap.size≤gX by omega) (vrv x)
            have HS':(fun W:World=>W.rangeAt b (off+k*5) [.int .i64 no,.int .i64 kd,.int .u64 l,.int .u64 mo,.slice so sn sc]∧W.rangeAt fb (k*4) [.int .i64 fno,.int .i64 fty,.int .u64 (fnum:Int),.slice fda fdl fdc]) _:=⟨mv_rangeY HS.1 (setRow_other q39 gX b (vrv x) (by omega)),mv_rangeY HS.2 (setRow_other q39 gX fb (vrv x) (by omega))⟩
            replace HS:=HS';clear HS'
            have hse:(q39.setRow gX (vrv x)).heap.size=q39.heap.size:=by simp[World.setRow]
            rw[←hse] at hcw;clear hse;refine hK_ _ _ HS ?_;simp only[Act.put,List.getElem_toArray,List.getElem_cons_succ,List.getElem_cons_zero];clear hK_
            generalize q39.setRow gX (vrv x)=q40 at *
            refine wpAnyH_one (k:=24) (fuel:=0) (by kernel_rfl) rfl (by kernel_rfl) (fun K_ hK_=>?_)
            refine wp_store_row 41 _ _ rfl gY #[.int .i64 0,.int .i64 0,.int .i64 0] rfl rfl 41 _ RY infoFt rfl oneB ?_
            replace RX:=(setRow_other q40 gY gX #[.int .i64 0,.int .i64 0,.int .i64 0] (by omega)).trans RX
            replace hvt:=hvt.other gY #[.int .i64 0,.int .i64 0,.int .i64 0] (fun b hb_=>⟨by omega,hb_⟩)
            replace RY:=setRow_heap q40 gY _ (#[.int .i64 0,.int .i64 0,.int .i64 0]) _ _ RY
            replace hbr:=below_setRow hbr (show wr.heap.size≤gY by omega) #[.int .i64 0,.int .i64 0,.int .i64 0]
            have HS':(fun W:World=>W.rangeAt b (off+k*5) [.int .i64 no,.int .i64 kd,.int .u64 l,.int .u64 mo,.slice so sn sc]∧W.rangeAt fb (k*4) [.int .i64 fno,.int .i64 fty,.int .u64 (fnum:Int),.slice fda fdl fdc]) _:=⟨mv_rangeY HS.1 (setRow_other q40 gY b #[.int .i64 0,.int .i64 0,.int .i64 0] (by omega)),mv_rangeY HS.2 (setRow_other q40 gY fb #[.int .i64 0,.int .i64 0,.int .i64 0] (by omega))⟩
            replace HS:=HS';clear HS'
            have hse:(q40.setRow gY #[.int .i64 0,.int .i64 0,.int .i64 0]).heap.size=q40.heap.size:=by simp[World.setRow]
            rw[←hse] at hcw;clear hse;refine hK_ _ _ HS ?_;simp only[Act.put,List.getElem_toArray,List.getElem_cons_succ,List.getElem_cons_zero];clear hK_
            generalize q40.setRow gY #[.int .i64 0,.int .i64 0,.int .i64 0]=q41 at *
            refine wpAnyH_done (by kernel_rfl) ?_ _
            exact key_ x gX gY q41 ⟨hbr,RX,RY,by omega,by omega,by omega,hvt.wid (fun b hb_=>⟨⟨by omega,by omega⟩,fun e=>by have:=hpor b e;omega⟩)⟩
           ·refine wp_world_op (.pointer (some ⟨q37.heap.size,0,none⟩)) (q37.alloc (.cells #[.int .i64 0,.int .i64 0,.int .i64 0] 41)) (by kernel_rfl) ?_
            have hb_:Below q37.heap.size q37 (q37.alloc (.cells #[.int .i64 0,.int .i64 0,.int .i64 0] 41)):=(Below.refl _ _).alloc (Nat.le_refl _) _
            have lo_gY:wr.heap.size≤q37.heap.size:=hbr.size;have lt_RX_gY:=lt_of_row RX;have RY:=hp1_0 q37 (.cells #[.int .i64 0,.int .i64 0,.int .i64 0] 41);replace RX:=keep hb_ RX
            have HS':(fun W:World=>W.rangeAt b (off+k*5) [.int .i64 no,.int .i64 kd,.int .u64 l,.int .u64 mo,.slice so sn sc]∧W.rangeAt fb (k*4) [.int .i64 fno,.int .i64 fty,.int .u64 (fnum:Int),.slice fda fdl fdc]) _:=⟨rangeS_keep2 HS.1 hb_ (by have:=hbr.size;omega),rangeS_keep2 HS.2 hb_ (by have:=hbr.size;omega)⟩
            replace HS:=HS';clear HS';replace hbr:=Below.after hbr hb_;clear hb_;refine hK_ _ _ HS ?_;simp only[Act.put,List.getElem_toArray,List.getElem_cons_succ,List.getElem_cons_zero,List.setIfInBounds_toArray,List.set_cons_succ,List.set_cons_zero];clear hK_
            generalize q37.alloc (.cells #[.int .i64 0,.int .i64 0,.int .i64 0] 41)=q42 at *
            generalize q37.heap.size=gY at *
            refine wpAnyH_one (k:=17) (fuel:=5) (by kernel_rfl) rfl (by kernel_rfl) (fun K_ hK_=>?_)
            have lc_gX:=lt_of_row RX;have lc_gY:=lt_of_row RY;have hcL:=hbr.size
            refine wp_call_ex (f:=63) (R:=fun u w'=>(∃x,u=.tuple #[.agg (vrv x),.agg #[.int .i64 0,.int .i64 0,.int .i64 0]]∧VtO w' (fun b=>(w0.heap.size≤b∧b<y.heap.size)∨q42.heap.size≤b) x X)∧Below q42.heap.size q42 w') (by kernel_rfl) (cV.out q42 hbr) (fun v_ q43 hX_=>?_)
            obtain⟨⟨x,rfl,hvt⟩,hb_⟩:=hX_
            have oneA:(vrv x).all (·.oneCell')=true:=by simp[vrv,vrw,Value.oneCell']
            have hcw:q43.heap.size≤q43.heap.size:=Nat.le_refl _;replace hvt:=vtm_upto hvt;have hcH:=hb_.size;replace RX:=keep hb_ RX;replace RY:=keep hb_ RY
            have HS':(fun W:World=>W.rangeAt b (off+k*5) [.int .i64 no,.int .i64 kd,.int .u64 l,.int .u64 mo,.slice so sn sc]∧W.rangeAt fb (k*4) [.int .i64 fno,.int .i64 fty,.int .u64 (fnum:Int),.slice fda fdl fdc]) _:=⟨rangeS_keep2 HS.1 hb_ (by have:=hbr.size;omega),rangeS_keep2 HS.2 hb_ (by have:=hbr.size;omega)⟩
            replace HS:=HS';clear HS';replace hbr:=Below.after hbr hb_;clear hb_;refine hK_ _ _ HS ?_;simp only[Act.put,List.getElem_toArray,List.getElem_cons_succ,List.getElem_cons_zero,List.setIfInBounds_toArray,List.set_cons_succ,List.set_cons_zero];clear hK_
            refine wpAnyH_take (i:=18) (v:=?v65) rfl (by kernel_rfl) (by kernel_rfl) (by kernel_rfl) (fun _ _ _ h=>h) (Or.inl ⟨by rfl,?y65⟩) HS ?r65
            case y65=>
             intro w_ hS_;go_simp
             try with_reducible rfl
            simp only[Act.put,List.getElem_toArray,List.getElem_cons_succ,List.getElem_cons_zero,List.setIfInBounds_toArray,List.set_cons_succ,List.set_cons_zero]
            refine wpAnyH_take (i:=19) (v:=?v66) rfl (by kernel_rfl) (by kernel_rfl) (by kernel_rfl) (fun _ _ _ h=>h) (Or.inl ⟨by rfl,?y66⟩) HS ?r66
            case y66=>
             intro w_ hS_;go_simp
             try with_reducible rfl
            simp only[Act.put,List.getElem_toArray,List.getElem_cons_succ,List.getElem_cons_zero,List.setIfInBounds_toArray,List.set_cons_succ,List.set_cons_zero]
            refine wpAnyH_take (i:=20) (v:=?v67) rfl (by kernel_rfl) (by kernel_rfl) (by kernel_rfl) (fun _ _ _ h=>h) (Or.inl ⟨by rfl,?y67⟩) HS ?r67
            case y67=>
             intro w_ hS_;go_simp
             try with_reducible rfl
            simp only[Act.put,List.getElem_toArray,List.getElem_cons_succ,List.getElem_cons_zero,List.setIfInBounds_toArray,List.set_cons_succ,List.set_cons_zero]
            refine wpAnyH_one (k:=23) (fuel:=1) (by kernel_rfl) rfl (by kernel_rfl) (fun K_ hK_=>?_)
            refine wp_store_row 27 _ _ rfl gX (vrv x) rfl rfl 27 _ RX infoV rfl oneA ?_
            replace RY:=(setRow_other q43 gX gY (vrv x) (by omega)).trans RY
            replace hvt:=hvt.other gX (vrv x) (fun b hb_=>⟨by omega,hb_⟩)
            replace RX:=setRow_heap q43 gX _ ((vrv x)) _ _ RX
            replace hbr:=below_setRow hbr (show wr.heap.size≤gX by omega) (vrv x)
            have HS':(fun W:World=>W.rangeAt b (off+k*5) [.int .i64 no,.int .i64 kd,.int .u64 l,.int .u64 mo,.slice so sn sc]∧W.rangeAt fb (k*4) [.int .i64 fno,.int .i64 fty,.int .u64 (fnum:Int),.slice fda fdl fdc]) _:=⟨mv_rangeY HS.1 (setRow_other q43 gX b (vrv x) (by omega)),mv_rangeY HS.2 (setRow_other q43 gX fb (vrv x) (by omega))⟩
            replace HS:=HS';clear HS'
            have hse:(q43.setRow gX (vrv x)).heap.size=q43.heap.size:=by simp[World.setRow]
            rw[←hse] at hcw;clear hse;refine hK_ _ _ HS ?_;simp only[Act.put,List.getElem_toArray,List.getElem_cons_succ,List.getElem_cons_zero];clear hK_
            generalize q43.setRow gX (vrv x)=q44 at *
            refine wpAnyH_one (k:=24) (fuel:=0) (by kernel_rfl) rfl (by kernel_rfl) (fun K_ hK_=>?_)
            refine wp_store_row 41 _ _ rfl gY #[.int .i64 0,.int .i64 0,.int .i64 0] rfl rfl 41 _ RY infoFt rfl oneB ?_
            replace RX:=(setRow_other q44 gY gX #[.int .i64 0,.int .i64 0,.int .i64 0] (by omega)).trans RX
            replace hvt:=hvt.other gY #[.int .i64 0,.int .i64 0,.int .i64 0] (fun b hb_=>⟨by omega,hb_⟩)
            replace RY:=setRow_heap q44 gY _ (#[.int .i64 0,.int .i64 0,.int .i64 0]) _ _ RY
            replace hbr:=below_setRow hbr (show wr.heap.size≤gY by omega) #[.int .i64 0,.int .i64 0,.int .i64 0]
            have HS':(fun W:World=>W.rangeAt b (off+k*5) [.int .i64 no,.int .i64 kd,.int .u64 l,.int .u64 mo,.slice so sn sc]∧W.rangeAt fb (k*4) [.int .i64 fno,.int .i64 fty,.int .u64 (fnum:Int),.slice fda fdl fdc]) _:=⟨mv_rangeY HS.1 (setRow_other q44 gY b #[.int .i64 0,.int .i64 0,.int .i64 0] (by omega)),mv_rangeY HS.2 (setRow_other q44 gY fb #[.int .i64 0,.int .i64 0,.int .i64 0] (by omega))⟩
            replace HS:=HS';clear HS'
            have hse:(q44.setRow gY #[.int .i64 0,.int .i64 0,.int .i64 0]).heap.size=q44.heap.size:=by simp[World.setRow]
            rw[←hse] at hcw;clear hse;refine hK_ _ _ HS ?_;simp only[Act.put,List.getElem_toArray,List.getElem_cons_succ,List.getElem_cons_zero];clear hK_
            generalize q44.setRow gY #[.int .i64 0,.int .i64 0,.int .i64 0]=q45 at *
            refine wpAnyH_done (by kernel_rfl) ?_ _
            exact key_ x gX gY q45 ⟨hbr,RX,RY,by omega,by omega,by omega,hvt.wid (fun b hb_=>⟨⟨by omega,by omega⟩,fun e=>by have:=hpor b e;omega⟩)⟩
          ·refine wp_world_op (.pointer (some ⟨a6.heap.size,0,none⟩)) (a6.alloc (.cells #[.int .i64 0,.int .i64 0,.int .i64 0] 41)) (by kernel_rfl) ?_
           have hb_:Below a6.heap.size a6 (a6.alloc (.cells #[.int .i64 0,.int .i64 0,.int .i64 0] 41)):=(Below.refl _ _).alloc (Nat.le_refl _) _
           have lo_gY:wr.heap.size≤a6.heap.size:=hbr.size;have RY:=hp1_0 a6 (.cells #[.int .i64 0,.int .i64 0,.int .i64 0] 41)
           have HS':(fun W:World=>W.rangeAt b (off+k*5) [.int .i64 no,.int .i64 kd,.int .u64 l,.int .u64 mo,.slice so sn sc]∧W.rangeAt fb (k*4) [.int .i64 fno,.int .i64 fty,.int .u64 (fnum:Int),.slice fda fdl fdc]) _:=⟨rangeS_keep2 HS.1 hb_ (by have:=hbr.size;omega),rangeS_keep2 HS.2 hb_ (by have:=hbr.size;omega)⟩
           replace HS:=HS';clear HS';replace hbr:=Below.after hbr hb_;clear hb_;refine hK_ _ _ HS ?_;simp only[Act.put,List.getElem_toArray,List.getElem_cons_succ,List.getElem_cons_zero,List.setIfInBounds_toArray,List.set_cons_succ,List.set_cons_zero];clear hK_
           generalize a6.alloc (.cells #[.int .i64 0,.int .i64 0,.int .i64 0] 41)=q46 at *
           generalize a6.heap.size=gY at *
           refine wpAnyH_two (j:=17) (k:=21) (fuel:=6) (by kernel_rfl) rfl rfl (by kernel_rfl) (by kernel_rfl) (fun K_ hK_=>?_) (fun K_ hK_=>?_)
           ·have lc_gY:=lt_of_row RY
            have hcL:=hbr.size
            refine wp_call_ex (f:=63) (R:=fun u w'=>(∃x,u=.tuple #[.agg (vrv x),.agg #[.int .i64 0,.int .i64 0,.int .i64 0]]∧VtO w' (fun b=>(w0.heap.size≤b∧b<y.heap.size)∨q46.heap.size≤b) x X)∧Below q46.heap.size q46 w') (by kernel_rfl) (cV.out q46 hbr) (fun v_ q47 hX_=>?_)
            obtain⟨⟨x,rfl,hvt⟩,hb_⟩:=hX_
            have oneA:(vrv x).all (·.oneCell')=true:=by simp[vrv,vrw,Value.oneCell']
            have hcw:q47.heap.size≤q47.heap.size:=Nat.le_refl _;replace hvt:=vtm_upto hvt;have hcH:=hb_.size;replace RY:=keep hb_ RY
            have HS':(fun W:World=>W.rangeAt b (off+k*5) [.int .i64 no,.int .i64 kd,.int .u64 l,.int .u64 mo,.slice so sn sc]∧W.rangeAt fb (k*4) [.int .i64 fno,.int .i64 fty,.int .u64 (fnum:Int),.slice fda fdl fdc]) _:=⟨rangeS_keep2 HS.1 hb_ (by have:=hbr.size;omega),rangeS_keep2 HS.2 hb_ (by have:=hbr.size;omega)⟩
            replace HS:=HS';clear HS';replace hbr:=Below.after hbr hb_;clear hb_;refine hK_ _ _ HS ?_;simp only[Act.put,List.getElem_toArray,List.getElem_cons_succ,List.getElem_cons_zero,List.setIfInBounds_toArray,List.set_cons_succ,List.set_cons_zero];clear hK_
            refine wpAnyH_take (i:=18) (v:=?v68) rfl (by kernel_rfl) (by kernel_rfl) (by kernel_rfl) (fun _ _ _ h=>h) (Or.inl ⟨by rfl,?y68⟩) HS ?r68
            case y68=>
             intro w_ hS_;go_simp
             try with_reducible rfl
            simp only[Act.put,List.getElem_toArray,List.getElem_cons_succ,List.getElem_cons_zero,List.setIfInBounds_toArray,List.set_cons_succ,List.set_cons_zero]
            refine wpAnyH_take (i:=19) (v:=?v69) rfl (by kernel_rfl) (by kernel_rfl) (by kernel_rfl) (fun _ _ _ h=>h) (Or.inl ⟨by rfl,?y69⟩) HS ?r69
            case y69=>
             intro w_ hS_;go_simp
             try with_reducible rfl
            simp only[Act.put,List.getElem_toArray,List.getElem_cons_succ,List.getElem_cons_zero,List.setIfInBounds_toArray,List.set_cons_succ,List.set_cons_zero]
            refine wpAnyH_take (i:=20) (v:=?v70) rfl (by kernel_rfl) (by kernel_rfl) (by kernel_rfl) (fun _ _ _ h=>h) (Or.inl ⟨by rfl,?y70⟩) HS ?r70
            case y70=>
             intro w_ hS_;go_simp
             try with_reducible rfl
            simp only[Act.put,List.getElem_toArray,List.getElem_cons_succ,List.getElem_cons_zero,List.setIfInBounds_toArray,List.set_cons_succ,List.set_cons_zero]
            refine wpAnyH_one (k:=21) (fuel:=2) (by kernel_rfl) rfl (by kernel_rfl) (fun K_ hK_=>?_)
            refine wp_world_op (.pointer (some ⟨q47.heap.size,0,none⟩)) (q47.alloc (.cells #[.int .u64 0,.slice none 0 0,.slice none 0 0] 27)) (by kernel_rfl) ?_
            have hb_:Below q47.heap.size q47 (q47.alloc (.cells #[.int .u64 0,.slice none 0 0,.slice none 0 0] 27)):=(Below.refl _ _).alloc (Nat.le_refl _) _;have lo_gX:wr.heap.size≤q47.heap.size:=hbr.size;have lt_RY_gX:=lt_of_row RY;have lh_gX:=hcw;have RX:=hp1_0 q47 (.cells #[.int .u64 0,.slice none 0 0,.slice none 0 0] 27);replace RY:=keep hb_ RY;replace hvt:=hvt.blw hb_;replace hcw:=Nat.le_trans hcw hb_.size
            have HS':(fun W:World=>W.rangeAt b (off+k*5) [.int .i64 no,.int .i64 kd,.int .u64 l,.int .u64 mo,.slice so sn sc]∧W.rangeAt fb (k*4) [.int .i64 fno,.int .i64 fty,.int .u64 (fnum:Int),.slice fda fdl fdc]) _:=⟨rangeS_keep2 HS.1 hb_ (by have:=hbr.size;omega),rangeS_keep2 HS.2 hb_ (by have:=hbr.size;omega)⟩
            replace HS:=HS';clear HS';replace hbr:=Below.after hbr hb_;clear hb_;refine hK_ _ _ HS ?_;simp only[Act.put,List.getElem_toArray,List.getElem_cons_succ,List.getElem_cons_zero,List.setIfInBounds_toArray,List.set_cons_succ,List.set_cons_zero];clear hK_
            generalize q47.alloc (.cells #[.int .u64 0,.slice none 0 0,.slice none 0 0] 27)=q48 at *
            generalize q47.heap.size=gX at *
            refine wpAnyH_one (k:=23) (fuel:=1) (by kernel_rfl) rfl (by kernel_rfl) (fun K_ hK_=>?_)
            refine wp_store_row 27 _ _ rfl gX (vrv x) rfl rfl 27 _ RX infoV rfl oneA ?_
            replace RY:=(setRow_other q48 gX gY (vrv x) (by omega)).trans RY
            replace hvt:=hvt.other gX (vrv x) (fun b hb_=>⟨by omega,hb_⟩)
            replace RX:=setRow_heap q48 gX _ ((vrv x)) _ _ RX
            replace hbr:=below_setRow hbr (show wr.heap.size≤gX by omega) (vrv x)
            have HS':(fun W:World=>W.rangeAt b (off+k*5) [.int .i64 no,.int .i64 kd,.int .u64 l,.int .u64 mo,.slice so sn sc]∧W.rangeAt fb (k*4) [.int .i64 fno,.int .i64 fty,.int .u64 (fnum:Int),.slice fda fdl fdc]) _:=⟨mv_rangeY HS.1 (setRow_other q48 gX b (vrv x) (by omega)),mv_rangeY HS.2 (setRow_other q48 gX fb (vrv x) (by omega))⟩
            replace HS:=HS';clear HS'
            have hse:(q48.setRow gX (vrv x)).heap.size=q48.heap.size:=by simp[World.setRow]
            rw[←hse] at hcw;clear hse;refine hK_ _ _ HS ?_;simp only[Act.put,List.getElem_toArray,List.getElem_cons_succ,List.getElem_cons_zero];clear hK_
            generalize q48.setRow gX (vrv x)=q49 at *
            refine wpAnyH_one (k:=24) (fuel:=0) (by kernel_rfl) rfl (by kernel_rfl) (fun K_ hK_=>?_)
            refine wp_store_row 41 _ _ rfl gY #[.int .i64 0,.int .i64 0,.int .i64 0] rfl rfl 41 _ RY infoFt rfl oneB ?_
            replace RX:=(setRow_other q49 gY gX #[.int .i64 0,.int .i64 0,.int .i64 0] (by omega)).trans RX
            replace hvt:=hvt.other gY #[.int .i64 0,.int .i64 0,.int .i64 0] (fun b hb_=>⟨by omega,hb_⟩)
            replace RY:=setRow_heap q49 gY _ (#[.int .i64 0,.int .i64 0,.int .i64 0]) _ _ RY
            replace hbr:=below_setRow hbr (show wr.heap.size≤gY by omega) #[.int .i64 0,.int .i64 0,.int .i64 0]
            have HS':(fun W:World=>W.rangeAt b (off+k*5) [.int .i64 no,.int .i64 kd,.int .u64 l,.int .u64 mo,.slice so sn sc]∧W.rangeAt fb (k*4) [.int .i64 fno,.int .i64 fty,.int .u64 (fnum:Int),.slice fda fdl fdc]) _:=⟨mv_rangeY HS.1 (setRow_other q49 gY b #[.int .i64 0,.int .i64 0,.int .i64 0] (by omega)),mv_rangeY HS.2 (setRow_other q49 gY fb #[.int .i64 0,.int .i64 0,.int .i64 0] (by omega))⟩
            replace HS:=HS';clear HS'
            have hse:(q49.setRow gY #[.int .i64 0,.int .i64 0,.int .i64 0]).heap.size=q49.heap.size:=by simp[World.setRow]
            rw[←hse] at hcw;clear hse;refine hK_ _ _ HS ?_;simp only[Act.put,List.getElem_toArray,List.getElem_cons_succ,List.getElem_cons_zero];clear hK_
            generalize q49.setRow gY #[.int .i64 0,.int .i64 0,.int .i64 0]=q50 at *
            refine wpAnyH_done (by kernel_rfl) ?_ _
            exact key_ x gX gY q50 ⟨hbr,RX,RY,by omega,by omega,by omega,hvt.wid (fun b hb_=>⟨⟨by omega,by omega⟩,fun e=>by have:=hpor b e;omega⟩)⟩
           ·refine wp_world_op (.pointer (some ⟨q46.heap.size,0,none⟩)) (q46.alloc (.cells #[.int .u64 0,.slice none 0 0,.slice none 0 0] 27)) (by kernel_rfl) ?_
            have hb_:Below q46.heap.size q46 (q46.alloc (.cells #[.int .u64 0,.slice none 0 0,.slice none 0 0] 27)):=(Below.refl _ _).alloc (Nat.le_refl _) _
            have lo_gX:wr.heap.size≤q46.heap.size:=hbr.size;have lt_RY_gX:=lt_of_row RY;have RX:=hp1_0 q46 (.cells #[.int .u64 0,.slice none 0 0,.slice none 0 0] 27);replace RY:=keep hb_ RY
            have HS':(fun W:World=>W.rangeAt b (off+k*5) [.int .i64 no,.int .i64 kd,.int .u64 l,.int .u64 mo,.slice so sn sc]∧W.rangeAt fb (k*4) [.int .i64 fno,.int .i64 fty,.int .u64 (fnum:Int),.slice fda fdl fdc]) _:=⟨rangeS_keep2 HS.1 hb_ (by have:=hbr.size;omega),rangeS_keep2 HS.2 hb_ (by have:=hbr.size;omega)⟩
            replace HS:=HS';clear HS';replace hbr:=Below.after hbr hb_;clear hb_;refine hK_ _ _ HS ?_;simp only[Act.put,List.getElem_toArray,List.getElem_cons_succ,List.getElem_cons_zero,List.setIfInBounds_toArray,List.set_cons_succ,List.set_cons_zero];clear hK_
            generalize q46.alloc (.cells #[.int .u64 0,.slice none 0 0,.slice none 0 0] 27)=q51 at *
            generalize q46.heap.size=gX at *
            refine wpAnyH_one (k:=17) (fuel:=5) (by kernel_rfl) rfl (by kernel_rfl) (fun K_ hK_=>?_)
            have lc_gX:=lt_of_row RX;have lc_gY:=lt_of_row RY;have hcL:=hbr.size
            refine wp_call_ex (f:=63) (R:=fun u w'=>(∃x,u=.tuple #[.agg (vrv x),.agg #[.int .i64 0,.int .i64 0,.int .i64 0]]∧VtO w' (fun b=>(w0.heap.size≤b∧b<y.heap.size)∨q51.heap.size≤b) x X)∧Below q51.heap.size q51 w') (by kernel_rfl) (cV.out q51 hbr) (fun v_ q52 hX_=>?_)
            obtain⟨⟨x,rfl,hvt⟩,hb_⟩:=hX_
            have oneA:(vrv x).all (·.oneCell')=true:=by simp[vrv,vrw,Value.oneCell']
            have hcw:q52.heap.size≤q52.heap.size:=Nat.le_refl _;replace hvt:=vtm_upto hvt;have hcH:=hb_.size;replace RY:=keep hb_ RY;replace RX:=keep hb_ RX
            have HS':(fun W:World=>W.rangeAt b (off+k*5) [.int .i64 no,.int .i64 kd,.int .u64 l,.int .u64 mo,.slice so sn sc]∧W.rangeAt fb (k*4) [.int .i64 fno,.int .i64 fty,.int .u64 (fnum:Int),.slice fda fdl fdc]) _:=⟨rangeS_keep2 HS.1 hb_ (by have:=hbr.size;omega),rangeS_keep2 HS.2 hb_ (by have:=hbr.size;omega)⟩
            replace HS:=HS';clear HS';replace hbr:=Below.after hbr hb_;clear hb_;refine hK_ _ _ HS ?_;simp only[Act.put,List.getElem_toArray,List.getElem_cons_succ,List.getElem_cons_zero,List.setIfInBounds_toArray,List.set_cons_succ,List.set_cons_zero];clear hK_
            refine wpAnyH_take (i:=18) (v:=?v71) rfl (by kernel_rfl) (by kernel_rfl) (by kernel_rfl) (fun _ _ _ h=>h) (Or.inl ⟨by rfl,?y71⟩) HS ?r71
            case y71=>
             intro w_ hS_;go_simp
             try with_reducible rfl
            simp only[Act.put,List.getElem_toArray,List.getElem_cons_succ,List.getElem_cons_zero,List.setIfInBounds_toArray,List.set_cons_succ,List.set_cons_zero]
            refine wpAnyH_take (i:=19) (v:=?v72) rfl (by kernel_rfl) (by kernel_rfl) (by kernel_rfl) (fun _ _ _ h=>h) (Or.inl ⟨by rfl,?y72⟩) HS ?r72
            case y72=>
             intro w_ hS_;go_simp
             try with_reducible rfl
            simp only[Act.put,List.getElem_toArray,List.getElem_cons_succ,List.getElem_cons_zero,List.setIfInBounds_toArray,List.set_cons_succ,List.set_cons_zero]
            refine wpAnyH_take (i:=20) (v:=?v73) rfl (by kernel_rfl) (by kernel_rfl) (by kernel_rfl) (fun _ _ _ h=>h) (Or.inl ⟨by rfl,?y73⟩) HS ?r73
            case y73=>
             intro w_ hS_;go_simp
             try with_reducible rfl
            simp only[Act.put,List.getElem_toArray,List.getElem_cons_succ,List.getElem_cons_zero,List.setIfInBounds_toArray,List.set_cons_succ,List.set_cons_zero]
            refine wpAnyH_one (k:=23) (fuel:=1) (by kernel_rfl) rfl (by kernel_rfl) (fun K_ hK_=>?_)
            refine wp_store_row 27 _ _ rfl gX (vrv x) rfl rfl 27 _ RX infoV rfl oneA ?_
            replace RY:=(setRow_other q52 gX gY (vrv x) (by omega)).trans RY
            replace hvt:=hvt.other gX (vrv x) (fun b hb_=>⟨by omega,hb_⟩)
            replace RX:=setRow_heap q52 gX _ ((vrv x)) _ _ RX
            replace hbr:=below_setRow hbr (show wr.heap.size≤gX by omega) (vrv x)
            have HS':(fun W:World=>W.rangeAt b (off+k*5) [.int .i64 no,.int .i64 kd,.int .u64 l,.int .u64 mo,.slice so sn sc]∧W.rangeAt fb (k*4) [.int .i64 fno,.int .i64 fty,.int .u64 (fnum:Int),.slice fda fdl fdc]) _:=⟨mv_rangeY HS.1 (setRow_other q52 gX b (vrv x) (by omega)),mv_rangeY HS.2 (setRow_other q52 gX fb (vrv x) (by omega))⟩
            replace HS:=HS';clear HS'
            have hse:(q52.setRow gX (vrv x)).heap.size=q52.heap.size:=by simp[World.setRow]
            rw[←hse] at hcw;clear hse;refine hK_ _ _ HS ?_;simp only[Act.put,List.getElem_toArray,List.getElem_cons_succ,List.getElem_cons_zero];clear hK_
            generalize q52.setRow gX (vrv x)=q53 at *
            refine wpAnyH_one (k:=24) (fuel:=0) (by kernel_rfl) rfl (by kernel_rfl) (fun K_ hK_=>?_)
            refine wp_store_row 41 _ _ rfl gY #[.int .i64 0,.int .i64 0,.int .i64 0] rfl rfl 41 _ RY infoFt rfl oneB ?_
            replace RX:=(setRow_other q53 gY gX #[.int .i64 0,.int .i64 0,.int .i64 0] (by omega)).trans RX
            replace hvt:=hvt.other gY #[.int .i64 0,.int .i64 0,.int .i64 0] (fun b hb_=>⟨by omega,hb_⟩)
            replace RY:=setRow_heap q53 gY _ (#[.int .i64 0,.int .i64 0,.int .i64 0]) _ _ RY
            replace hbr:=below_setRow hbr (show wr.heap.size≤gY by omega) #[.int .i64 0,.int .i64 0,.int .i64 0]
            have HS':(fun W:World=>W.rangeAt b (off+k*5) [.int .i64 no,.int .i64 kd,.int .u64 l,.int .u64 mo,.slice so sn sc]∧W.rangeAt fb (k*4) [.int .i64 fno,.int .i64 fty,.int .u64 (fnum:Int),.slice fda fdl fdc]) _:=⟨mv_rangeY HS.1 (setRow_other q53 gY b #[.int .i64 0,.int .i64 0,.int .i64 0] (by omega)),mv_rangeY HS.2 (setRow_other q53 gY fb #[.int .i64 0,.int .i64 0,.int .i64 0] (by omega))⟩
            replace HS:=HS';clear HS'
            have hse:(q53.setRow gY #[.int .i64 0,.int .i64 0,.int .i64 0]).heap.size=q53.heap.size:=by simp[World.setRow]
            rw[←hse] at hcw;clear hse;refine hK_ _ _ HS ?_;simp only[Act.put,List.getElem_toArray,List.getElem_cons_succ,List.getElem_cons_zero];clear hK_
            generalize q53.setRow gY #[.int .i64 0,.int .i64 0,.int .i64 0]=q54 at *
            refine wpAnyH_done (by kernel_rfl) ?_ _
            exact key_ x gX gY q54 ⟨hbr,RX,RY,by omega,by omega,by omega,hvt.wid (fun b hb_=>⟨⟨by omega,by omega⟩,fun e=>by have:=hpor b e;omega⟩)⟩
         rintro⟨xn,xda,xdl,xdc,xpa,xpl,xpc⟩ gX gY z0 ⟨hbr,RX,RY,hgx_,hgy_,hgn_,hvt⟩;replace RX:z0.heap[gX]? =some (.cells #[.int .u64 (xn:Int),.slice xda xdl xdc,.slice xpa xpl xpc] 27 (0,0)):=RX;have cY:=cell_of_row _ _ 2 _ _ _ RY;have hbz:=hbr.size;have RVb:=keep hbr RVbr.out;have hPw:=hPr.out.keep hbr;have cP:=cell_of_row _ _ 2 _ _ _ RVb;have NVc:=new_cells4 z0 #[.int .u64 (xn:Int),.slice xda xdl xdc,.slice xpa xpl xpc] 27;have hb_:Below z0.heap.size z0 (z0.alloc (.cells #[.int .u64 (xn:Int),.slice xda xdl xdc,.slice xpa xpl xpc] 27)):=(Below.refl _ _).alloc (Nat.le_refl _) _;have R1:=hide (keep hb_ RVb);have P1:=hide (hPw.keep hb_);have v1:=hide (hvt.blw hb_);have B1:=hide (Below.after (Below.after hby.out hbr) hb_);clear hb_ hbr RVb hPw hvt;obtain⟨iV,hiV,hiz,his,hib⟩:=infoVI;have hOk:=P1.out.1;rw[hlk.out] at hOk;have hpo1:=own_high_row hOk
         go_wp2_with (first|(refine wpList_load_want rfl 27 _ rfl gX rfl 27 #[.int .u64 (xn:Int),.slice xda xdl xdc,.slice xpa xpl xpc] (0,0) _ RX Tryz.underlying27 rfl infoV ?_)|(at_builtin;refine wpList_plain rfl fun K_ hKp=>wp_append_nx _ _ 25 rfl (y.heap.size+1) 27 iV (.agg #[.int .u64 0,.slice none 0 0,.slice none 0 0]) 3 56 Tryz.underlying25 hiV hiz his hib rfl (by decide) (.slice pva k pvc) k (vrs xs) rfl hOk ⟨z0.heap.size,0,none⟩ 1 1 [.int .u64 (xn:Int),.slice xda xdl xdc,.slice xpa xpl xpc] rfl rfl NVc (fun x hx=>by simp at hx;rcases hx with rfl|rfl|rfl<;>rfl) (by unfold maxLen;omega) (by omega) (by have:=B1.out.size;simp;omega) ?_)|fail)
         intro pv' x4 hO4 hgr hnx;refine hKp _ _ ?_;clear hKp
         have P4:=P1.out.snoc v1.out (by rw[hlk.out];exact hO4) hgr hnx
         have R4:=(hgr.block y.heap.size (by simp;omega) (fun e=>by have:=(hpo1 _ e.symm).1;omega)).trans R1.out
         have szB1:=B1.out.size
         have B4:=B1.out.grown hgr szB1 (fun z e=>by have:=(hpo1 z e).1;omega)
         obtain⟨po,pc,rfl⟩:=own_slice hO4;have R5:=hide (setRow_heap x4 y.heap.size _ #[.int .u64 0,.slice none 0 0,.slice po (k+1) pc] _ _ R4);have B5:=hide (below_setRow (g:=y.heap.size) B4 (Nat.le_refl _) #[.int .u64 0,.slice none 0 0,.slice po (k+1) pc])
         have P5:=hide (P4.oth y.heap.size #[.int .u64 0,.slice none 0 0,.slice po (k+1) pc] (fun q=>q.2 rfl) (by omega))
         clear R1 P1 v1 B1 B4 P4 hO4 hgr hnx NVc cP RX RY hpo1 szB1 hOk cY
         go_wp2_with (first|(refine wpList_store_cellY rfl 25 _ _ rfl y.heap.size 2 (.slice po (k+1) pc) rfl rfl 27 #[.int .u64 0,.slice none 0 0,.slice pva k pvc] #[.int .u64 0,.slice none 0 0,.slice po (k+1) pc] R4 (by show 2<3;decide) rfl infoVSY rfl ?_)|fail)
         refine⟨⟨k+1,_,_,by omega,by omega,by go_num,by rw[hat1.out],by rw[hat1.out];exact eR.out,R5.out,by rw[hvk.out];exact P5.out,B5.out⟩,?_⟩
         simp[intOf];omega
       ·rw[if_pos hty] at eR
        simp only at eR
        replace eR:=hide eR
        have bt1:(fty !=wk)=true:=by simpa using hty
        have bt2:(fty==wk)=false:=by simpa using hty
        clear cVl0;have hbd:Below a1.heap.size a1 a1.drew:=below_drN (Below.refl _ _) 1
        have HS':(fun W:World=>W.rangeAt b (off+k*5) [.int .i64 no,.int .i64 kd,.int .u64 l,.int .u64 mo,.slice so sn sc]∧W.rangeAt fb (k*4) [.int .i64 fno,.int .i64 fty,.int .u64 (fnum:Int),.slice fda fdl fdc]) _:=⟨rangeS_keep2 HS.1 hbd (by have:=hbr.size;omega),rangeS_keep2 HS.2 hbd (by have:=hbr.size;omega)⟩
        replace HS:=HS';clear HS';replace hbr:=Below.after hbr hbd;clear hbd
        refine wp_region_held (S:=fun W:World=>W.rangeAt b (off+k*5) [.int .i64 no,.int .i64 kd,.int .u64 l,.int .u64 mo,.slice so sn sc]∧W.rangeAt fb (k*4) [.int .i64 fno,.int .i64 fty,.int .u64 (fnum:Int),.slice fda fdl fdc]) (by kernel_rfl) ?_
        change wpAnyH _ _ _ _ _ _ _ _ (World.drew _)
        generalize a1.drew=a3 at *
        refine wpAnyH_take (i:=0) (v:=?vc96) rfl (by kernel_rfl) (by kernel_rfl) (by kernel_rfl) (fun _ _ _ h=>h) (Or.inl ⟨by rfl,?yc96⟩) HS ?rc96
        case yc96=>
         intro w_ hS_;go_simp
         try with_reducible rfl
        simp only[Act.put,List.getElem_toArray,List.getElem_cons_zero,List.setIfInBounds_toArray,List.set_cons_succ,List.set_cons_zero]
        refine wpAnyH_take (i:=1) (v:=?vc97) rfl (by kernel_rfl) (by kernel_rfl) (by kernel_rfl) (fun _ _ _ h=>h) (Or.inl ⟨by rfl,?yc97⟩) HS ?rc97
        case yc97=>
         intro w_ hS_;go_simp
         try with_reducible rfl
        simp only[Act.put,List.getElem_toArray,List.getElem_cons_succ,List.getElem_cons_zero,List.setIfInBounds_toArray,List.set_cons_succ,List.set_cons_zero]
        refine wpAnyH_take (i:=2) (v:=?vc98) rfl (by kernel_rfl) (by kernel_rfl) (by kernel_rfl) (fun _ _ _ h=>h) (Or.inl ⟨by rfl,?yc98⟩) HS ?rc98
        case yc98=>
         intro w_ hS_;go_simp
         try with_reducible rfl
        simp only[Act.put,List.getElem_toArray,List.getElem_cons_succ,List.getElem_cons_zero,List.setIfInBounds_toArray,List.set_cons_succ,List.set_cons_zero]
        refine wpAnyH_take (i:=3) (v:=?vc99) rfl (by kernel_rfl) (by kernel_rfl) (by kernel_rfl) (fun _ _ _ h=>h) (Or.inl ⟨by rfl,?yc99⟩) HS ?rc99
        case yc99=>
         intro w_ hS_;go_simp
         try with_reducible rfl
        simp only[Act.put,List.getElem_toArray,List.getElem_cons_succ,List.getElem_cons_zero,List.setIfInBounds_toArray,List.set_cons_succ,List.set_cons_zero]
        refine wpAnyH_take (i:=4) (v:=.int .i64 fty) rfl (by kernel_rfl) (by kernel_rfl) (by kernel_rfl) (fun _ _ _ h=>h) (Or.inl ⟨by rfl,?yc100⟩) HS ?rc100
        case yc100=>
         intro w_ hS_;have c_:w_.cell? ⟨fb,k*4+1,none⟩=some (.int .i64 fty):=hS_.2 1 _ rfl;go_simp
         try with_reducible rfl
        simp only[Act.put,List.getElem_toArray,List.getElem_cons_succ,List.getElem_cons_zero,List.setIfInBounds_toArray,List.set_cons_succ,List.set_cons_zero]
        refine wpAnyH_take (i:=5) (v:=?vc101) rfl (by kernel_rfl) (by kernel_rfl) (by kernel_rfl) (fun _ _ _ h=>h) (Or.inl ⟨by rfl,?yc101⟩) HS ?rc101
        case yc101=>
         intro w_ hS_;go_simp
         try with_reducible rfl
        simp only[Act.put,List.getElem_toArray,List.getElem_cons_succ,List.getElem_cons_zero,List.setIfInBounds_toArray,List.set_cons_succ,List.set_cons_zero]
        refine wpAnyH_take (i:=6) (v:=?vc102) rfl (by kernel_rfl) (by kernel_rfl) (by kernel_rfl) (fun _ _ _ h=>h) (Or.inl ⟨by rfl,?yc102⟩) HS ?rc102
        case yc102=>
         intro w_ hS_;go_simp
         try with_reducible rfl
        simp only[Act.put,List.getElem_toArray,List.getElem_cons_succ,List.getElem_cons_zero,List.setIfInBounds_toArray,List.set_cons_succ,List.set_cons_zero]
        refine wpAnyH_take (i:=7) (v:=?vc103) rfl (by kernel_rfl) (by kernel_rfl) (by kernel_rfl) (fun _ _ _ h=>h) (Or.inl ⟨by rfl,?yc103⟩) HS ?rc103
        case yc103=>
         intro w_ hS_;go_simp
         try with_reducible rfl
        simp only[Act.put,List.getElem_toArray,List.getElem_cons_succ,List.getElem_cons_zero,List.setIfInBounds_toArray,List.set_cons_succ,List.set_cons_zero]
        refine wpAnyH_take (i:=8) (v:=?vc104) rfl (by kernel_rfl) (by kernel_rfl) (by kernel_rfl) (fun _ _ _ h=>h) (Or.inl ⟨by rfl,?yc104⟩) HS ?rc104
        case yc104=>
         intro w_ hS_;go_simp
         try with_reducible rfl
        simp only[Act.put,List.getElem_toArray,List.getElem_cons_succ,List.getElem_cons_zero,List.setIfInBounds_toArray,List.set_cons_succ,List.set_cons_zero]
        refine wpAnyH_take (i:=9) (v:=.int .i64 kd) rfl (by kernel_rfl) (by kernel_rfl) (by kernel_rfl) (fun _ _ _ h=>h) (Or.inl ⟨by rfl,?yc105⟩) HS ?rc105
        case yc105=>
         intro w_ hS_;have c_:w_.cell? ⟨b,off+k*5+1,none⟩=some (.int .i64 kd):=hS_.1 1 _ rfl;go_simp
         try with_reducible rfl
        simp only[Act.put,List.getElem_toArray,List.getElem_cons_succ,List.getElem_cons_zero,List.setIfInBounds_toArray,List.set_cons_succ,List.set_cons_zero]
        refine wpAnyH_one (k:=10) (fuel:=1) (by kernel_rfl) rfl (by kernel_rfl) (fun K_ hK=>?_)
        refine wp_call_ex (f:=54) (R:=fun u w'=>u=.int .i64 wk∧Below a3.heap.size a3 w') (by kernel_rfl) ((cT.out a3).mono fun _ _ h=>⟨_,h.1,rfl,h.2⟩) (fun v_ a4 hX_=>?_)
        obtain⟨rfl,hb_⟩:=hX_
        have HS':(fun W:World=>W.rangeAt b (off+k*5) [.int .i64 no,.int .i64 kd,.int .u64 l,.int .u64 mo,.slice so sn sc]∧W.rangeAt fb (k*4) [.int .i64 fno,.int .i64 fty,.int .u64 (fnum:Int),.slice fda fdl fdc]) _:=⟨rangeS_keep2 HS.1 hb_ (by have:=hbr.size;omega),rangeS_keep2 HS.2 hb_ (by have:=hbr.size;omega)⟩
        replace HS:=HS';clear HS';replace hbr:=Below.after hbr hb_;clear hb_;refine hK _ _ HS ?_;simp only[Act.put,List.getElem_toArray,List.getElem_cons_succ,List.getElem_cons_zero,List.setIfInBounds_toArray,List.set_cons_succ,List.set_cons_zero];clear hK
        refine wpAnyH_take (i:=11) (v:=.bool true) rfl (by kernel_rfl) (by kernel_rfl) (by kernel_rfl) (fun _ _ _ h=>h) (Or.inl ⟨by rfl,?yc106⟩) HS ?rc106
        case yc106=>
         intro w_ hS_;go_simp
         try with_reducible rfl
        simp only[Act.put,List.getElem_toArray,List.getElem_cons_succ,List.getElem_cons_zero,List.setIfInBounds_toArray,List.set_cons_succ,List.set_cons_zero]
        refine wpAnyH_done (by kernel_rfl) ?_ _
        have R6:=keep hbr R6r.out;have R7:=keep hbr R7r.out
        have hW:=hWr.out.trans (hbr.mono (by omega))
        clear HS cW_ cT
        have oneA:(#[Value.int .u64 0,.slice none 0 0,.slice none 0 0]:Array Value).all (·.oneCell')=true:=by simp[Value.oneCell']
        have oneB:(#[Value.int .i64 0,.int .i64 at_,.int .i64 82]:Array Value).all (·.oneCell')=true:=by simp[Value.oneCell']
        have cA:=hide (r_at (at_) (82) a4);replace hW:=hide hW;replace R6:=hide R6;replace R7:=hide R7
        go_wp2_with (first|(refine wpList_build_want rfl 27 _ rfl [] rfl #[.int .u64 0,.slice none 0 0,.slice none 0 0] builtZvR ?_)|fail)
        refine cA.out.mono ?_;rintro e_ x2 ⟨rfl,hb2⟩;replace R6:=keep hb2 R6.out;replace R7:=keep hb2 R7.out;replace hW:=Below.after hW.out hb2;clear hb2 cA
        go_wp2_with (first|(refine wpList_store_row rfl 27 _ _ rfl (w.heap.size) #[.int .u64 0,.slice none 0 0,.slice none 0 0] rfl rfl 27 _ R6 infoV rfl oneA ?_)|(refine wpList_store_row rfl 41 _ _ rfl (w.heap.size+1) #[.int .i64 0,.int .i64 at_,.int .i64 82] rfl rfl 41 _ ((setRow_other x2 (w.heap.size) (w.heap.size+1) #[.int .u64 0,.slice none 0 0,.slice none 0 0] (by omega)).trans R7) infoFt rfl oneB ?_)|fail)
        replace R7:=(setRow_other x2 (w.heap.size) (w.heap.size+1) #[.int .u64 0,.slice none 0 0,.slice none 0 0] (by omega)).trans R7
        replace R6:=setRow_heap x2 (w.heap.size) _ (#[.int .u64 0,.slice none 0 0,.slice none 0 0]) _ _ R6
        replace hW:=below_setRow hW (show w.heap.size≤w.heap.size by omega) #[.int .u64 0,.slice none 0 0,.slice none 0 0]
        generalize x2.setRow (w.heap.size) #[.int .u64 0,.slice none 0 0,.slice none 0 0]=x3 at *
        replace R6:=(setRow_other x3 (w.heap.size+1) (w.heap.size) #[.int .i64 0,.int .i64 at_,.int .i64 82] (by omega)).trans R6
        replace R7:=setRow_heap x3 (w.heap.size+1) _ (#[.int .i64 0,.int .i64 at_,.int .i64 82]) _ _ R7
        replace hW:=below_setRow hW (show w.heap.size≤w.heap.size+1 by omega) #[.int .i64 0,.int .i64 at_,.int .i64 82]
        exact bodyPost_ret (v:=.tuple #[.agg #[.int .u64 0,.slice none 0 0,.slice none 0 0],.agg #[.int .i64 0,.int .i64 at_,.int .i64 82]]) (results_cell_cell Tryz.results39 _ _ (w.heap.size) (w.heap.size+1) _ _ _ _ _ _ _ _ rfl R6 Tryz.underlying27 rfl infoV rfl R7 Tryz.underlying41 rfl infoFt) rfl (by unfold VaQ;rw[hR.out,eR.out];exact⟨rfl,hW⟩)
      ·rw[if_pos hno] at eR
       simp only at eR
       replace eR:=hide eR
       have bn1:(fno !=no)=true:=by simpa using hno
       have bn2:(fno==no)=false:=by simpa using hno
       clear cVl0;have hbd:Below wr.heap.size wr wr.drew:=below_drN (Below.refl _ _) 1
       have HS':(fun W:World=>W.rangeAt b (off+k*5) [.int .i64 no,.int .i64 kd,.int .u64 l,.int .u64 mo,.slice so sn sc]∧W.rangeAt fb (k*4) [.int .i64 fno,.int .i64 fty,.int .u64 (fnum:Int),.slice fda fdl fdc]) _:=⟨rangeS_keep2 HS.1 hbd (by have:=hbr.size;omega),rangeS_keep2 HS.2 hbd (by have:=hbr.size;omega)⟩
       replace HS:=HS';clear HS';replace hbr:=Below.after hbr hbd;clear hbd
       refine wp_region_held (S:=fun W:World=>W.rangeAt b (off+k*5) [.int .i64 no,.int .i64 kd,.int .u64 l,.int .u64 mo,.slice so sn sc]∧W.rangeAt fb (k*4) [.int .i64 fno,.int .i64 fty,.int .u64 (fnum:Int),.slice fda fdl fdc]) (by kernel_rfl) ?_
       change wpAnyH _ _ _ _ _ _ _ _ (World.drew _)
       generalize wr.drew=a1 at *
       refine wpAnyH_take (i:=0) (v:=?vd107) rfl (by kernel_rfl) (by kernel_rfl) (by kernel_rfl) (fun _ _ _ h=>h) (Or.inl ⟨by rfl,?yd107⟩) HS ?rd107
       case yd107=>
        intro w_ hS_;go_simp
        try with_reducible rfl
       simp only[Act.put,List.getElem_toArray,List.getElem_cons_zero,List.setIfInBounds_toArray,List.set_cons_succ,List.set_cons_zero]
       refine wpAnyH_take (i:=1) (v:=?vd108) rfl (by kernel_rfl) (by kernel_rfl) (by kernel_rfl) (fun _ _ _ h=>h) (Or.inl ⟨by rfl,?yd108⟩) HS ?rd108
       case yd108=>
        intro w_ hS_;go_simp
        try with_reducible rfl
       simp only[Act.put,List.getElem_toArray,List.getElem_cons_succ,List.getElem_cons_zero,List.setIfInBounds_toArray,List.set_cons_succ,List.set_cons_zero]
       refine wpAnyH_take (i:=2) (v:=?vd109) rfl (by kernel_rfl) (by kernel_rfl) (by kernel_rfl) (fun _ _ _ h=>h) (Or.inl ⟨by rfl,?yd109⟩) HS ?rd109
       case yd109=>
        intro w_ hS_;go_simp
        try with_reducible rfl
       simp only[Act.put,List.getElem_toArray,List.getElem_cons_succ,List.getElem_cons_zero,List.setIfInBounds_toArray,List.set_cons_succ,List.set_cons_zero]
       refine wpAnyH_take (i:=3) (v:=?vd110) rfl (by kernel_rfl) (by kernel_rfl) (by kernel_rfl) (fun _ _ _ h=>h) (Or.inl ⟨by rfl,?yd110⟩) HS ?rd110
       case yd110=>
        intro w_ hS_;go_simp
        try with_reducible rfl
       simp only[Act.put,List.getElem_toArray,List.getElem_cons_succ,List.getElem_cons_zero,List.setIfInBounds_toArray,List.set_cons_succ,List.set_cons_zero]
       refine wpAnyH_take (i:=4) (v:=.int .i64 fno) rfl (by kernel_rfl) (by kernel_rfl) (by kernel_rfl) (fun _ _ _ h=>h) (Or.inl ⟨by rfl,?yd111⟩) HS ?rd111
       case yd111=>
        intro w_ hS_;have c_:w_.cell? ⟨fb,k*4,none⟩=some (.int .i64 fno):=hS_.2 0 _ rfl;go_simp
        try with_reducible rfl
       simp only[Act.put,List.getElem_toArray,List.getElem_cons_succ,List.getElem_cons_zero,List.setIfInBounds_toArray,List.set_cons_succ,List.set_cons_zero]
       refine wpAnyH_take (i:=5) (v:=?vd112) rfl (by kernel_rfl) (by kernel_rfl) (by kernel_rfl) (fun _ _ _ h=>h) (Or.inl ⟨by rfl,?yd112⟩) HS ?rd112
       case yd112=>
        intro w_ hS_;go_simp
        try with_reducible rfl
       simp only[Act.put,List.getElem_toArray,List.getElem_cons_succ,List.getElem_cons_zero,List.setIfInBounds_toArray,List.set_cons_succ,List.set_cons_zero]
       refine wpAnyH_take (i:=6) (v:=?vd113) rfl (by kernel_rfl) (by kernel_rfl) (by kernel_rfl) (fun _ _ _ h=>h) (Or.inl ⟨by rfl,?yd113⟩) HS ?rd113
       case yd113=>
        intro w_ hS_;go_simp
        try with_reducible rfl
       simp only[Act.put,List.getElem_toArray,List.getElem_cons_succ,List.getElem_cons_zero,List.setIfInBounds_toArray,List.set_cons_succ,List.set_cons_zero]
       refine wpAnyH_take (i:=7) (v:=?vd114) rfl (by kernel_rfl) (by kernel_rfl) (by kernel_rfl) (fun _ _ _ h=>h) (Or.inl ⟨by rfl,?yd114⟩) HS ?rd114
       case yd114=>
        intro w_ hS_;go_simp
        try with_reducible rfl
       simp only[Act.put,List.getElem_toArray,List.getElem_cons_succ,List.getElem_cons_zero,List.setIfInBounds_toArray,List.set_cons_succ,List.set_cons_zero]
       refine wpAnyH_take (i:=8) (v:=?vd115) rfl (by kernel_rfl) (by kernel_rfl) (by kernel_rfl) (fun _ _ _ h=>h) (Or.inl ⟨by rfl,?yd115⟩) HS ?rd115
       case yd115=>
        intro w_ hS_;go_simp
        try with_reducible rfl
       simp only[Act.put,List.getElem_toArray,List.getElem_cons_succ,List.getElem_cons_zero,List.setIfInBounds_toArray,List.set_cons_succ,List.set_cons_zero]
       refine wpAnyH_take (i:=9) (v:=.int .i64 no) rfl (by kernel_rfl) (by kernel_rfl) (by kernel_rfl) (fun _ _ _ h=>h) (Or.inl ⟨by rfl,?yd116⟩) HS ?rd116
       case yd116=>
        intro w_ hS_;have c_:w_.cell? ⟨b,off+k*5,none⟩=some (.int .i64 no):=hS_.1 0 _ rfl;go_simp
        try with_reducible rfl
       simp only[Act.put,List.getElem_toArray,List.getElem_cons_succ,List.getElem_cons_zero,List.setIfInBounds_toArray,List.set_cons_succ,List.set_cons_zero]
       refine wpAnyH_take (i:=10) (v:=.bool true) rfl (by kernel_rfl) (by kernel_rfl) (by kernel_rfl) (fun _ _ _ h=>h) (Or.inl ⟨by rfl,?yd117⟩) HS ?rd117
       case yd117=>
        intro w_ hS_;go_simp
        try with_reducible rfl
       simp only[Act.put,List.getElem_toArray,List.getElem_cons_succ,List.getElem_cons_zero,List.setIfInBounds_toArray,List.set_cons_succ,List.set_cons_zero]
       refine wpAnyH_done (by kernel_rfl) ?_ _
       have R6:=keep hbr R6r.out;have R7:=keep hbr R7r.out
       have hW:=hWr.out.trans (hbr.mono (by omega))
       clear HS cW_ cT
       have oneA:(#[Value.int .u64 0,.slice none 0 0,.slice none 0 0]:Array Value).all (·.oneCell')=true:=by simp[Value.oneCell']
       have oneB:(#[Value.int .i64 0,.int .i64 at_,.int .i64 81]:Array Value).all (·.oneCell')=true:=by simp[Value.oneCell']
       have cA:=hide (r_at (at_) (81) a1);replace hW:=hide hW;replace R6:=hide R6;replace R7:=hide R7
       go_wp2_with (first|(refine wpList_build_want rfl 27 _ rfl [] rfl #[.int .u64 0,.slice none 0 0,.slice none 0 0] builtZvR ?_)|fail)
       refine cA.out.mono ?_;rintro e_ x2 ⟨rfl,hb2⟩;replace R6:=keep hb2 R6.out;replace R7:=keep hb2 R7.out;replace hW:=Below.after hW.out hb2;clear hb2 cA
       go_wp2_with (first|(refine wpList_store_row rfl 27 _ _ rfl (w.heap.size) #[.int .u64 0,.slice none 0 0,.slice none 0 0] rfl rfl 27 _ R6 infoV rfl oneA ?_)|(refine wpList_store_row rfl 41 _ _ rfl (w.heap.size+1) #[.int .i64 0,.int .i64 at_,.int .i64 81] rfl rfl 41 _ ((setRow_other x2 (w.heap.size) (w.heap.size+1) #[.int .u64 0,.slice none 0 0,.slice none 0 0] (by omega)).trans R7) infoFt rfl oneB ?_)|fail)
       replace R7:=(setRow_other x2 (w.heap.size) (w.heap.size+1) #[.int .u64 0,.slice none 0 0,.slice none 0 0] (by omega)).trans R7
       replace R6:=setRow_heap x2 (w.heap.size) _ (#[.int .u64 0,.slice none 0 0,.slice none 0 0]) _ _ R6
       replace hW:=below_setRow hW (show w.heap.size≤w.heap.size by omega) #[.int .u64 0,.slice none 0 0,.slice none 0 0]
       generalize x2.setRow (w.heap.size) #[.int .u64 0,.slice none 0 0,.slice none 0 0]=x3 at *
       replace R6:=(setRow_other x3 (w.heap.size+1) (w.heap.size) #[.int .i64 0,.int .i64 at_,.int .i64 81] (by omega)).trans R6
       replace R7:=setRow_heap x3 (w.heap.size+1) _ (#[.int .i64 0,.int .i64 at_,.int .i64 81]) _ _ R7
       replace hW:=below_setRow hW (show w.heap.size≤w.heap.size+1 by omega) #[.int .i64 0,.int .i64 at_,.int .i64 81]
       exact bodyPost_ret (v:=.tuple #[.agg #[.int .u64 0,.slice none 0 0,.slice none 0 0],.agg #[.int .i64 0,.int .i64 at_,.int .i64 81]]) (results_cell_cell Tryz.results39 _ _ (w.heap.size) (w.heap.size+1) _ _ _ _ _ _ _ _ rfl R6 Tryz.underlying27 rfl infoV rfl R7 Tryz.underlying41 rfl infoFt) rfl (by unfold VaQ;rw[hR.out,eR.out];exact⟨rfl,hW⟩)
    ·obtain rfl:k=ts.length:=by omega
     have hdk:decide ((ts.length:Int)<(ts.length:Int))=false:=by simp
     have szy:=hby.size
     have R6:=(hby.block (w.heap.size) (by omega)).trans R6y.out
     have R7:=(hby.block (w.heap.size+1) (by omega)).trans R7y.out
     have hsz0:=hw0.out.size
     have hW:=hw0.out.trans (hby.mono (by omega))
     clear h hs hV hkn hfok hnn
     by_cases hlf:ts.length<fs.length
     ·rw[dcT_long utD flD rfl hlf] at eR
      have hdl:decide ((fs.length:Int)>(ts.length:Int))=true:=by simp;omega
      replace eR:=hide eR
      generalize from_+((ebs (fs.take ts.length)).length:Int)=at_ at *
      clear hP RVb hby
      have oneA:(#[Value.int .u64 0,.slice none 0 0,.slice none 0 0]:Array Value).all (·.oneCell')=true:=by simp[Value.oneCell']
      have oneB:(#[Value.int .i64 0,.int .i64 at_,.int .i64 81]:Array Value).all (·.oneCell')=true:=by simp[Value.oneCell']
      have cA:=hide (r_at (at_) (81) wr);replace hW:=hide hW;replace R6:=hide R6;replace R7:=hide R7
      go_wp2_with (first|(refine wpList_build_want rfl 27 _ rfl [] rfl #[.int .u64 0,.slice none 0 0,.slice none 0 0] builtZvR ?_)|fail)
      refine cA.out.mono ?_;rintro e_ x2 ⟨rfl,hb2⟩;replace R6:=keep hb2 R6.out;replace R7:=keep hb2 R7.out;replace hW:=Below.after hW.out hb2;clear hb2 cA
      go_wp2_with (first|(refine wpList_store_row rfl 27 _ _ rfl (w.heap.size) #[.int .u64 0,.slice none 0 0,.slice none 0 0] rfl rfl 27 _ R6 infoV rfl oneA ?_)|(refine wpList_store_row rfl 41 _ _ rfl (w.heap.size+1) #[.int .i64 0,.int .i64 at_,.int .i64 81] rfl rfl 41 _ ((setRow_other x2 (w.heap.size) (w.heap.size+1) #[.int .u64 0,.slice none 0 0,.slice none 0 0] (by omega)).trans R7) infoFt rfl oneB ?_)|fail)
      replace R7:=(setRow_other x2 (w.heap.size) (w.heap.size+1) #[.int .u64 0,.slice none 0 0,.slice none 0 0] (by omega)).trans R7
      replace R6:=setRow_heap x2 (w.heap.size) _ (#[.int .u64 0,.slice none 0 0,.slice none 0 0]) _ _ R6
      replace hW:=below_setRow hW (show w.heap.size≤w.heap.size by omega) #[.int .u64 0,.slice none 0 0,.slice none 0 0]
      generalize x2.setRow (w.heap.size) #[.int .u64 0,.slice none 0 0,.slice none 0 0]=x3 at *
      replace R6:=(setRow_other x3 (w.heap.size+1) (w.heap.size) #[.int .i64 0,.int .i64 at_,.int .i64 81] (by omega)).trans R6
      replace R7:=setRow_heap x3 (w.heap.size+1) _ (#[.int .i64 0,.int .i64 at_,.int .i64 81]) _ _ R7
      replace hW:=below_setRow hW (show w.heap.size≤w.heap.size+1 by omega) #[.int .i64 0,.int .i64 at_,.int .i64 81]
      exact bodyPost_ret (v:=.tuple #[.agg #[.int .u64 0,.slice none 0 0,.slice none 0 0],.agg #[.int .i64 0,.int .i64 at_,.int .i64 81]]) (results_cell_cell Tryz.results39 _ _ (w.heap.size) (w.heap.size+1) _ _ _ _ _ _ _ _ rfl R6 Tryz.underlying27 rfl infoV rfl R7 Tryz.underlying41 rfl infoFt) rfl (by unfold VaQ;rw[hR.out,eR.out];exact⟨rfl,hW⟩)
     ·have hle:fs.length=ts.length:=by omega
      rw[dcT_end utD flD rfl hle] at eR
      have hdl:decide ((fs.length:Int)>(ts.length:Int))=false:=by simp;omega
      have hxs:vlT (ts.take ts.length) (fs.take ts.length)=vlT ts fs:=by rw[List.take_length,←hle,List.take_length]
      rw[hxs] at hP hlk
      obtain⟨pa,pc,epv,hmsg⟩:=(hP.paw (lo:=w0.heap.size) (fun b hb_=>hb_.1)).msg (by omega) (by rw[hlk.out];omega)
      rw[hlk.out] at epv hmsg
      injection epv with ep1 ep2 ep3
      subst ep1 ep3
      have hm8:=hmsg.other (w.heap.size) #[.int .u64 0,.slice none 0 0,.slice pva ts.length pvc] (T:=fun b=>w0.heap.size≤b) (fun b hb_=>⟨by omega,hb_⟩)
      have hm9:=hm8.other (w.heap.size+1) #[.int .i64 0,.int .i64 0,.int .i64 0] (T:=fun b=>w.heap.size≤b) (fun b hb_=>⟨by omega,by omega⟩)
      have oneA:(#[Value.int .u64 0,.slice none 0 0,.slice pva ts.length pvc]:Array Value).all (·.oneCell')=true:=by simp[Value.oneCell']
      have oneB:(#[Value.int .i64 0,.int .i64 0,.int .i64 0]:Array Value).all (·.oneCell')=true:=by simp[Value.oneCell']
      clear hm8 hmsg hP hby hFt;replace eR:=hide eR
      go_wp2_with (first|(refine wpList_load_want rfl 27 _ rfl y.heap.size rfl 27 #[.int .u64 0,.slice none 0 0,.slice pva ts.length pvc] (0,0) _ RVb Tryz.underlying27 rfl infoV ?_)|(refine wpList_build_want rfl 41 _ rfl [] rfl #[.int .i64 0,.int .i64 0,.int .i64 0] builtZeR ?_)|(refine wpList_store_row rfl 27 _ _ rfl (w.heap.size) #[.int .u64 0,.slice none 0 0,.slice pva ts.length pvc] rfl rfl 27 _ R6 infoV rfl oneA ?_)|(refine wpList_store_row rfl 41 _ _ rfl (w.heap.size+1) #[.int .i64 0,.int .i64 0,.int .i64 0] rfl rfl 41 _ ((setRow_other wr (w.heap.size) (w.heap.size+1) #[.int .u64 0,.slice none 0 0,.slice pva ts.length pvc] (by omega)).trans R7) infoFt rfl oneB ?_)|fail)
      replace R7:=(setRow_other wr (w.heap.size) (w.heap.size+1) #[.int .u64 0,.slice none 0 0,.slice pva ts.length pvc] (by omega)).trans R7
      replace R6:=setRow_heap wr (w.heap.size) _ (#[.int .u64 0,.slice none 0 0,.slice pva ts.length pvc]) _ _ R6
      replace hW:=below_setRow hW (show w.heap.size≤w.heap.size by omega) #[.int .u64 0,.slice none 0 0,.slice pva ts.length pvc]
      generalize wr.setRow (w.heap.size) #[.int .u64 0,.slice none 0 0,.slice pva ts.length pvc]=w8 at *
      replace R6:=(setRow_other w8 (w.heap.size+1) (w.heap.size) #[.int .i64 0,.int .i64 0,.int .i64 0] (by omega)).trans R6
      replace R7:=setRow_heap w8 (w.heap.size+1) _ (#[.int .i64 0,.int .i64 0,.int .i64 0]) _ _ R7
      replace hW:=below_setRow hW (show w.heap.size≤w.heap.size+1 by omega) #[.int .i64 0,.int .i64 0,.int .i64 0]
      exact bodyPost_ret (v:=.tuple #[.agg #[.int .u64 0,.slice none 0 0,.slice pva ts.length pvc],.agg #[.int .i64 0,.int .i64 0,.int .i64 0]]) (results_cell_cell Tryz.results39 _ _ (w.heap.size) (w.heap.size+1) _ _ _ _ _ _ _ _ rfl R6 Tryz.underlying27 rfl infoV rfl R7 Tryz.underlying41 rfl infoFt) rfl (by unfold VaQ;rw[hR.out,eR.out];exact⟨⟨⟨0,none,0,0,pva,ts.length,pvc⟩,rfl,by rw[hfs.out];exact hm9⟩,hW⟩)
  ·have eR:R=some ⟨0,from_+dpl (dwh d),der (dwh d)⟩:=by rw[←hR0,deT,decN,if_pos hde]
   have hd1:(der (dwh d)==0)=false:=by simpa using hde
   have hd2:(der (dwh d) !=0)=true:=by simpa using hde
   have hdp:=dpl_bd d;replace eR:=hide eR;replace hde:=hide hde;clear hR0
   generalize der (dwh d)=E at *
   generalize dpl (dwh d)=pl at *
   have R6:=R6y.out;have R7:=R7y.out;have hW:=hw0.out;clear h hs hV hFt
   have oneA:(#[Value.int .u64 0,.slice none 0 0,.slice none 0 0]:Array Value).all (·.oneCell')=true:=by simp[Value.oneCell']
   have oneB:(#[Value.int .i64 0,.int .i64 (from_+pl),.int .i64 E]:Array Value).all (·.oneCell')=true:=by simp[Value.oneCell']
   have cA:=hide (r_at ((from_+pl)) (E) y);replace hW:=hide hW;replace R6:=hide R6;replace R7:=hide R7
   go_wp2_with (first|(refine wpList_build_want rfl 27 _ rfl [] rfl #[.int .u64 0,.slice none 0 0,.slice none 0 0] builtZvR ?_)|fail)
   refine cA.out.mono ?_;rintro e_ x2 ⟨rfl,hb2⟩;replace R6:=keep hb2 R6.out;replace R7:=keep hb2 R7.out;replace hW:=Below.after hW.out hb2;clear hb2 cA
   go_wp2_with (first|(refine wpList_store_row rfl 27 _ _ rfl (w.heap.size) #[.int .u64 0,.slice none 0 0,.slice none 0 0] rfl rfl 27 _ R6 infoV rfl oneA ?_)|(refine wpList_store_row rfl 41 _ _ rfl (w.heap.size+1) #[.int .i64 0,.int .i64 (from_+pl),.int .i64 E] rfl rfl 41 _ ((setRow_other x2 (w.heap.size) (w.heap.size+1) #[.int .u64 0,.slice none 0 0,.slice none 0 0] (by omega)).trans R7) infoFt rfl oneB ?_)|fail)
   replace R7:=(setRow_other x2 (w.heap.size) (w.heap.size+1) #[.int .u64 0,.slice none 0 0,.slice none 0 0] (by omega)).trans R7
   replace R6:=setRow_heap x2 (w.heap.size) _ (#[.int .u64 0,.slice none 0 0,.slice none 0 0]) _ _ R6
   replace hW:=below_setRow hW (show w.heap.size≤w.heap.size by omega) #[.int .u64 0,.slice none 0 0,.slice none 0 0]
   generalize x2.setRow (w.heap.size) #[.int .u64 0,.slice none 0 0,.slice none 0 0]=x3 at *
   replace R6:=(setRow_other x3 (w.heap.size+1) (w.heap.size) #[.int .i64 0,.int .i64 (from_+pl),.int .i64 E] (by omega)).trans R6
   replace R7:=setRow_heap x3 (w.heap.size+1) _ (#[.int .i64 0,.int .i64 (from_+pl),.int .i64 E]) _ _ R7
   replace hW:=below_setRow hW (show w.heap.size≤w.heap.size+1 by omega) #[.int .i64 0,.int .i64 (from_+pl),.int .i64 E]
   exact bodyPost_ret (v:=.tuple #[.agg #[.int .u64 0,.slice none 0 0,.slice none 0 0],.agg #[.int .i64 0,.int .i64 (from_+pl),.int .i64 E]]) (results_cell_cell Tryz.results39 _ _ (w.heap.size) (w.heap.size+1) _ _ _ _ _ _ _ _ rfl R6 Tryz.underlying27 rfl infoV rfl R7 Tryz.underlying41 rfl infoFt) rfl (by unfold VaQ;rw[hR.out,eR.out];exact⟨rfl,hW⟩)
theorem r_decodeA:∀(m:Nat) (ts:List Slt),htT ts≤(m:Int)→gd ts→∀(sv:Value) (d:List B) (bv:Value) (from_:Int) (w:World),0≤from_→from_+(d.length:Int)≤1152921504606846976→Slo w sv ts→BysB w bv d→(∀a l c,bv=.slice a l c→l≤c)→
 Calls Tryz.prog 39 #[sv,bv,.int .i64 from_] w (VaQ w (fun b=>w.heap.size≤b) (deT utD flD ts d from_) (mgT ts d)):=by
 intro m
 induction m with
 |zero=>
  intro ts hh _ sv d bv from_ w h0 h1 h hB hc
  refine r_decodeN d bv from_ h0 h1 w h hB hc (fun k hk=>?_)
  have:=htT_sub ts k hk;have:=htT_pos (gs ts k).sub;omega
 |succ m ih=>
  intro ts hh hg sv d bv from_ w h0 h1 h hB hc
  refine r_decodeN d bv from_ h0 h1 w h hB hc (fun k hk u P f da dc at_ V hu hV hF hty hfit=>?_)
  have hs:=htT_sub ts k hk;have hgk:=(gd_at ts k hk hg).2;obtain⟨so,sc,rfl⟩:=hu.form
  exact r_valueT hgk.1 so _ sc P f da dc at_ V hF hty hfit (fun hn V2 b bv q hV2 hB2 hc2 q0 q1=>ih (gs ts k).sub (by omega) (hgk.2 hn) _ b bv q V2 q0 q1 ((hu.keep hV).keep hV2) hB2 hc2)
end Go.Proofs.YtmmlkfkpblokiaaGreatDoor
