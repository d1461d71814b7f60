import Derived.Test.YtmmlkfkpblokiaaGreatDoorQzKti
set_option maxRecDepth 100000
set_option maxHeartbeats 16000000
namespace Go.Proofs.YtmmlkfkpblokiaaGreatDoor
open Go Go.RowKit Go.Sort
attribute [local go_sem] setCell_drewN alloc_drewN
theorem Gup.mp {base:Nat} {F:Option Flt3} {e:Ending} {w':World} {R R':Value→Prop} (h:Gup base F e w' R) (hi:∀v,R v→R' v):Gup base F e w' R':=by
 cases F with
 |none=>obtain⟨v,e,hv⟩:=h;exact⟨v,e,hi v hv⟩
 |some x=>exact h
theorem ent_inner3 (args:Array Value) (W:World):(callFunc 125 args).run Tryz.prog W=.ok (.enter 125 args) W:=by kernel_rfl
theorem ent_listed3 (args:Array Value) (W:World):(callFunc 131 args).run Tryz.prog W=.ok (.enter 131 args) W:=by kernel_rfl
theorem a_slotReadT {utf:List B→Bool} {flE:Nat→Nat→Int} {G:World→Prop} (hp:Plo utf flE G) {W:World} {S0:Nat→Prop} {t:Slt} {u:Value} {row:Array Value} (h:SlC W S0 t u row) (hG:G W) (hu:nst t→∃so sn sc,u=.slice so sn sc)
 (hsub:nst t→∀(V:World) (d:List B) (bv:Value) (from_:Int),0≤from_→from_+(d.length:Int)≤1152921504606846976→Below W.heap.size W V→BysB V bv d→(∀a l c,bv=.slice a l c→l≤c)→Calls Tryz.prog 38 #[u,bv,.int .i64 from_] V (DeR V (deT utf flE t.sub d from_) (mgT t.sub d))):∃wt k1 k2 k3 a1 a2 a3,row=rdv t.no wt k1 k2 k3 a1 a2 a3∧wt=wtA t.kind∧(∀args W,(callFunc k3 args).run Tryz.prog W=.ok (.enter k3 args) W)∧
 ∀(P:Nat→Prop) (f:Fd) (da:Option Addr) (dc:Nat) (at_:Int) (w:World),Fdk w P f da dc at_→Below W.heap.size W w→f.ty=wtA t.kind→Calls Tryz.prog k3 (#[.agg #[.int .i64 f.no,.int .i64 f.ty,.int .u64 (f.num:Int),.slice da f.dat.length dc],.int .i64 at_]++a3) w (RdR w P (rdT utf flE t f at_) (vlS t f)):=by
 have fin:∀(P:Nat→Prop) (f:Fd) (da:Option Addr) (dc:Nat) (at_:Int) (w:World),Fdk w P f da dc at_→t.kind≠8→t.kind≠9→∀e w',(Gup w.heap.size (rdE at_ (ftN utf flE t.kind t.least t.most f)) e w' (fun v=>v=.agg (vrw f.num (.slice da f.dat.length dc) nS))∧Below w.heap.size w w')→RdR w P (rdT utf flE t f at_) (vlS t f) e w':=by
  intro P f da dc at_ w hf h8 h9 e w' hx
  have e1:rdT utf flE t f at_=rdE at_ (ftN utf flE t.kind t.least t.most f):=by unfold rdT rdN;rw[if_neg h8,if_neg h9]
  have e2:vlS t f=.mk f.num f.dat []:=by unfold vlS vlN;rw[if_neg h8,if_neg h9]
  rw[e1,e2]
  exact⟨hx.1.mp (fun v hv=>⟨⟨f.num,da,f.dat.length,dc,none,0,0⟩,hv,plain_tree hf hx.2 (fun b hb=>.inl hb)⟩),hx.2⟩
 have num:∀(wt l m:Int),PlC W S0 t.no wt 90 #[.int .i64 wt,.int .u64 l,.int .u64 m] row→wtA t.kind=wt→t.kind≠8→t.kind≠9→(∀f:Fd,ftN utf flE t.kind t.least t.most f=wth (f.num:Int) l m)→∃wt k1 k2 k3 a1 a2 a3,row=rdv t.no wt k1 k2 k3 a1 a2 a3∧wt=wtA t.kind∧(∀args W,(callFunc k3 args).run Tryz.prog W=.ok (.enter k3 args) W)∧
  ∀(P:Nat→Prop) (f:Fd) (da:Option Addr) (dc:Nat) (at_:Int) (w:World),Fdk w P f da dc at_→Below W.heap.size W w→f.ty=wtA t.kind→Calls Tryz.prog k3 (#[.agg #[.int .i64 f.no,.int .i64 f.ty,.int .u64 (f.num:Int),.slice da f.dat.length dc],.int .i64 at_]++a3) w (RdR w P (rdT utf flE t f at_) (vlS t f)):=by
  intro wt l m ⟨g0,g1,g2,g4,gs,e,h0,h1,h2,h4,h5⟩ hwt h8 h9 hE
  refine⟨wt,_,_,_,_,_,_,e,hwt.symm,ent_plain3,fun P f da dc at_ w hf hb _=>?_⟩
  refine(a_plain3 _ (.inl rfl) f.num f.no f.ty da f.dat.length dc at_ _ g2 gs w (h2.2.keep hb) (fun V hV=>a_fitNum f.num da f.dat.length dc none 0 0 wt l m gs V (h5.2.keep (Below.after hb hV)))).mono fun e w' hx=>fin P f da dc at_ w hf h8 h9 e w' ?_
  rw[hE f];exact hx
 rcases h with⟨hk,h⟩|⟨hk,h⟩|⟨hk,h⟩|⟨hk,h⟩|⟨hk,h⟩|⟨hk,h⟩|⟨hk,h⟩|⟨hk,h⟩
 ·exact num 0 _ _ h (by rw[hk];rfl) (by omega) (by omega) (fun f=>by unfold ftN plE8;rw[if_neg (by omega),if_neg (by omega),if_neg (by omega),if_neg (by omega)];rfl)
 ·exact num 5 _ _ h (by rw[hk];rfl) (by omega) (by omega) (fun f=>by unfold ftN plE8;rw[if_neg (by omega),if_neg (by omega),if_neg (by omega),if_neg (by omega)];rfl)
 ·exact num 1 _ _ h (by rw[hk];rfl) (by omega) (by omega) (fun f=>by unfold ftN plE8;rw[if_neg (by omega),if_neg (by omega),if_neg (by omega),if_neg (by omega)];rfl)
 ·exact num 0 _ _ h (by rw[hk];rfl) (by omega) (by omega) (fun f=>by unfold ftN plE8;rw[if_neg (by omega),if_neg (by omega),if_neg (by omega),if_pos hk];rfl)
 ·obtain⟨g0,g1,g2,g4,gs,e,h0,h1,h2,h4,h5⟩:=h
  refine⟨2,_,_,_,_,_,_,e,by rcases hk with hk|hk<;>rw[hk]<;>rfl,ent_plain3,fun P f da dc at_ w hf hb _=>?_⟩
  rcases hk with hk|hk
  ·rw[show(t.kind==6)=false by rw[hk];rfl] at h5
   have he:ftN utf flE t.kind t.least t.most f=wth (f.dat.length:Int) (t.least:Int) (t.most:Int):=by unfold ftN plE8;rw[if_pos hk];rfl
   refine(a_plain3 _ (.inr (.inr rfl)) f.num f.no f.ty da f.dat.length dc at_ _ g2 gs w (h2.2.keep hb) (fun V hV=>a_fitOct f.num da f.dat.length dc none 0 0 _ _ (by have:=hf.ok.2.1;omega) gs V (h5.2.keep (Below.after hb hV)))).mono fun e w' hx=>fin P f da dc at_ w hf (by omega) (by omega) e w' ?_
   rw[he];exact hx
  ·rw[show(t.kind==6)=true by rw[hk];rfl] at h5
   have he:ftN utf flE t.kind t.least t.most f=txE utf (t.least:Int) (t.most:Int) f.dat:=by unfold ftN plE8 txE;rw[if_neg (by omega),if_pos hk];rfl
   refine(a_plain3 _ (.inr (.inr rfl)) f.num f.no f.ty da f.dat.length dc at_ _ g2 gs w (h2.2.keep hb) (fun V hV=>a_fitTxt hp f.num da f.dat.length dc hf.hc none 0 0 f.dat _ _ (by have:=hf.ok.2.1;omega) gs V (hp.keep _ _ hG (Below.after hb hV)) (hf.hB.keep hV) rfl (h5.2.keep (Below.after hb hV)))).mono fun e w' hx=>fin P f da dc at_ w hf (by omega) (by omega) e w' ?_
   rw[he];exact hx
 ·obtain⟨g0,g1,g2,g4,gs,e,h0,h1,h2,h4,h5⟩:=h
  refine⟨1,_,_,_,_,_,_,e,by rw[hk];rfl,ent_plain3,fun P f da dc at_ w hf hb _=>?_⟩
  have he:ftN utf flE t.kind t.least t.most f=flE f.num t.most:=by unfold ftN plE8;rw[if_neg (by omega),if_neg (by omega),if_pos hk];rfl
  refine(a_plain3 _ (.inr (.inl rfl)) f.num f.no f.ty da f.dat.length dc at_ _ g2 gs w (h2.2.keep hb) (fun V hV=>a_fitFlt hp f.num t.most hf.ok.1 da f.dat.length dc none 0 0 gs V (h5.2.keep (Below.after hb hV)))).mono fun e w' hx=>fin P f da dc at_ w hf (by omega) (by omega) e w' ?_
  rw[he];exact hx
 ·obtain⟨so,sn,sc,rfl⟩:=hu (.inl hk)
  obtain⟨g0,g1,e,h0,h1⟩:=h
  refine⟨2,_,_,_,_,_,_,e,by rw[hk];rfl,ent_inner3,fun P f da dc at_ w hf hb hty=>?_⟩
  have hty2:f.ty=2:=by rw[hty,hk];rfl
  have hle:=fby_dat hty2
  have e1:rdT utf flE t f at_=deT utf flE t.sub f.dat (at_+((fby f).length:Int)-(f.dat.length:Int)):=by unfold rdT rdN;rw[if_pos hk]
  have e2:vlS t f=mgT t.sub f.dat:=by unfold vlS vlN;rw[if_pos hk]
  rw[e1,e2]
  exact a_inner3 P f da dc at_ g1 so sn sc w _ _ hf (h1.2.keep hb) (fun V hV=>hsub (.inl hk) V f.dat _ _ (by have:=hf.a0;omega) (by have:=hf.a1;omega) (Below.after hb hV) (hf.hB.keep hV) (fun a l c q=>by cases q;exact hf.hc))
 ·obtain⟨so,sn,sc,rfl⟩:=hu (.inr hk)
  obtain⟨g0,g1,g2,y,e,h0,h1,h2⟩:=h
  refine⟨2,_,_,_,_,_,_,e,by rw[hk];rfl,ent_listed3,fun P f da dc at_ w hf hb hty=>?_⟩
  have hty2:f.ty=2:=by rw[hty,hk];rfl
  have e1:rdT utf flE t f at_=lsN t.least t.most (deT utf flE t.sub) f.dat at_ (at_+((fby f).length:Int)-(f.dat.length:Int)):=by unfold rdT rdN;rw[if_neg (by omega),if_pos hk]
  have e2:vlS t f=.mk 0 [] ((spp (sp f.dat)).map (mgT t.sub)):=by unfold vlS vlN;rw[if_neg (by omega),if_pos hk]
  rw[e1,e2]
  exact a_listed3 P f da dc at_ g1 g2 y t.least t.most so sn sc w _ _ hf hty2 (h1.2.keep hb) (h2.2.keep hb) (fun V b bv q hV hB hc h0 h1=>hsub (.inr hk) V b bv q h0 h1 (Below.after hb hV) hB hc)
theorem a_decodeT {utf:List B→Bool} {flE:Nat→Nat→Int} {G:World→Prop} (hp:Plo utf flE G) {W:World} {S:Nat→Prop} {v:Value} {ts:List Slt} (h:RdL W S v ts) (hG:G W):∀(w:World) (d:List B) (bv:Value) (from_:Int),0≤from_→from_+(d.length:Int)≤1152921504606846976→Below W.heap.size W w→BysB w bv d→(∀a l c,bv=.slice a l c→l≤c)→
 Calls Tryz.prog 38 #[v,bv,.int .i64 from_] w (DeR w (deT utf flE ts d from_) (mgT ts d)):=by
 induction h with
 |mk ao cap ts rows us_ hl hc hnn h hs ih=>
  intro w d bv from_ hf0 hf1 hw hB hcap
  have hsl:=hide (fun k (hlt:k<ts.length)=>fun hSl=>a_slotReadT hp (W:=W) (S0:=S) (t:=gs ts k) (u:=us_ k) (row:=rows k) hSl hG (fun hn=>by obtain⟨a,c,q⟩:=(hs k hlt hn).form;exact⟨a,_,c,q⟩) (fun hn=>ih k hlt hn))
  clear hs ih;have rZ:=hp1_0 w (.cells #[.int .u64 0,nS,nS] 27);have hb0:Below w.heap.size w (w.alloc (.cells #[.int .u64 0,nS,nS] 27)):=(Below.refl _ _).alloc (Nat.le_refl _) _
  have hz0:(w.alloc (.cells #[.int .u64 0,nS,nS] 27)).heap.size=w.heap.size+1:=by simp
  have cDe:=hide (a_decode d (w.alloc (.cells #[.int .u64 0,nS,nS] 27)) bv (hB.keep hb0) hcap);unfold DeR mgT;obtain⟨R,hR⟩:∃R,deT utf flE ts d from_=R:=⟨_,rfl⟩;rw[hR];replace hb0:=hide hb0;replace rZ:=hide rZ;clear hB hcap
  go_enter Tryz.func38,Tryz.ntmps38
  go_upto_region 1 with(fail)
  generalize w.alloc (.cells #[.int .u64 0,nS,nS] 27)=w0 at *
  go_wp2_with (fail)
  refine cDe.out.mono ?_;rintro e_ y ⟨fv,us,rfl,hFt,hb1⟩;have rZ1:=hide (keep hb1 rZ.out);have lz:=lt_of_row rZ.out;have lzy:=hb1.size;have szy0:=hide lzy;have hw0:=hide (Below.after hb0.out hb1);have hwy:=hide (Below.after hw hw0.out);clear cDe rZ hb1 hb0
  by_cases hde:der (dwh d)=0
  ·have hfok:=dfs_oks d
   have hf64:=dfs_len d hde
   have hee:=eer_ok.1 (dec_enc hde).1
   have hkn:∀i,i<(dfs (dwh d)).length→_:=fun i hi=>ech_all _ 0 (by decide) hee.2.1 _ (gf_mem hi)
   have hebs:=hee.2.2
   have hebd:(ebs (dfs (dwh d))).length=d.length:=by
    have q:=(dec_enc hde).2;rw[eout,if_pos (dec_enc hde).1] at q;rw[q]
   have eR:R=dcT utf flE (ts.drop 0) ((dfs (dwh d)).drop 0) (from_+((ebs ((dfs (dwh d)).take 0)).length:Int)):=by rw[←hR,deT,decN,if_neg (by omega)];simp[ebs]
   rw[hde];clear hR hee hde
   generalize hfs:dfs (dwh d)=fs at *
   replace hfs:=hide hfs
   generalize dpl (dwh d)=pl at *
   obtain⟨fo,fcap,rfl⟩:∃fo fcap,fv=.slice fo fs.length fcap:=by
    obtain⟨_,⟨rfl,h0⟩|⟨g,cap,cur,rfl,_⟩⟩:=hFt.1
    ·exact⟨none,0,by rw[h0]⟩
    ·exact⟨_,_,rfl⟩
   replace hFt:=hide hFt;replace eR:=hide eR
   go_wp2_with (fail)
   go_loopw [30,10,11,12,13] (fun i pv at_ _ _ wr=>∃(k:Nat) (xs:List VR),k≤ts.length∧k≤fs.length∧i=.int .i64 k∧at_=.int .i64 (from_+((ebs (fs.take k)).length:Int))∧R=dcT utf flE (ts.drop k) (fs.drop k) (from_+((ebs (fs.take k)).length:Int))∧PaW wr w0.heap.size y.heap.size pv xs (vlT (ts.take k) (fs.take k))∧Below y.heap.size y wr) (fun i _ _ _ _ _=>ts.length-(intOf i).toNat)
   case atStart=>exact⟨0,[],by omega,by omega,rfl,by simp[ebs],eR.out,by rw[List.take_zero,List.take_zero,vlT_nil];exact paw_nil _ _ _,Below.refl _ _⟩
   case round=>
    clear eR;obtain⟨k,xs,hk,hkl,rfl,rfl,eR,hPw,hby⟩:=hrel
    have hlk:=hide (show(vlT (ts.take k) (fs.take k)).length=k by rw[vlT_len _ _ (by rw[List.length_take,List.length_take];omega),List.length_take];omega)
    by_cases hlt:k<ts.length
    ·generalize u10=pv at *
     have hdk:decide ((k:Int)<(ts.length:Int))=true:=by simp;omega
     obtain⟨b,rfl,hbl,_,hra,hSl⟩:=h k hlt;obtain⟨wt,k1,k2,k3,a1,a2,a3,hrow,hwt,hent,hcall⟩:=hsl.out k hlt hSl;rw[hrow] at hra;have szwr:=hby.size
     have hWw:Below W.heap.size W wr:=hwy.out.trans (hby.mono (by have:=hwy.out.size;omega))
     have hrw:=rangeS_keep2 hra hWw hbl;have hpo:∀z,pv.ownBlock=some z→y.heap.size≤z∧z<wr.heap.size:=own_high_row hPw.1;have hba:Below wr.heap.size wr (wr.alloc (.cells #[.int .i64 0,.int .i64 0,.nilFunc,.nilFunc,.nilFunc] 114)):=(Below.refl _ _).alloc (Nat.le_refl _) _;have rS:=hp1_0 wr (.cells #[.int .i64 0,.int .i64 0,.nilFunc,.nilFunc,.nilFunc] 114)
     have hone:(rdv (gs ts k).no wt k1 k2 k3 a1 a2 a3).all (·.oneCell')=true:=by simp[rdv,Value.oneCell']
     have hbb:=below_setRow (g:=wr.heap.size) hba (Nat.le_refl _) (rdv (gs ts k).no wt k1 k2 k3 a1 a2 a3);have rS2:=setRow_heap _ wr.heap.size _ (rdv (gs ts k).no wt k1 k2 k3 a1 a2 a3) _ _ rS;replace hPw:=hPw.keep hbb;have hfy:=hby;replace hby:=Below.after hby hbb;clear hba hbb hra hrow;replace hwt:=hide hwt
     by_cases hkf:k=fs.length
     ·rw[dcT_short utf flE hlt hkf.symm] at eR
      subst hkf
      rw[List.take_length] at eR;replace eR:=hide eR
      unfold rdv at *
      generalize (gs ts fs.length).no=no at *
      replace hby:=hide hby;clear hcall hSl hPw rS2 hfy hpo hWw hlk hsl;rw[List.take_length]
      generalize from_+((ebs fs).length:Int)=at_ at *
      go_upto_region 9 with(first|(refine wpList_load_mid rfl 114 _ rfl b (fs.length*5) rfl _ _ hrw Tryz.underlying114 rfl infoSt' ?_)|(refine wpList_store_row rfl 114 _ _ rfl wr.heap.size #[.int .i64 no,.int .i64 wt,.func (.func k1) #[] a1,.func (.func k2) #[] a2,.func (.func k3) #[] a3] rfl rfl 114 _ rS infoSt' rfl hone ?_)|fail)
      try unfold WpStay
      generalize (wr.alloc (.cells #[.int .i64 0,.int .i64 0,.nilFunc,.nilFunc,.nilFunc] 114)).setRow wr.heap.size #[.int .i64 no,.int .i64 wt,.func (.func k1) #[] a1,.func (.func k2) #[] a2,.func (.func k3) #[] a3]=x0 at *
      go_wp2_with (fail)
      refine(a_giveUp 0 at_ 81 _).mono ?_;rintro e_ x2 ⟨⟨g,rfl,hgl,hgr⟩,hb2⟩;have szx:=hby.out.size;have szy:=hw0.out.size;have hz:=Below.after hby.out hb2
      go_wp2
      rw[eR.out]
      exact⟨rfl,⟨g,rfl,by omega,hgr⟩,hw0.out.trans (hz.mono (by omega))⟩
     ·have hkf2:k<fs.length:=by omega
      have hdf:((k:Int)==(fs.length:Int))=false:=by simp;omega
      have hdf2:¬(k:Int)=(fs.length:Int):=by omega
      rw[dcT_step utf flE hlt hkf2] at eR;obtain⟨fb,fcap2,efv,hfb1,hfb2,hfrow⟩:=(hFt.out).at hkf2
      cases efv
      replace hfrow:=rangeS_keep2 hfrow hby hfb2;obtain⟨hk0,hk1,hk2,hk3⟩:=hkn k hkf2;have hfo:=hfok k hkf2
      have hsum:(ebs fs).length=(ebs (fs.take k)).length+(ebs (fs.drop k)).length:=by
       have e:=ebs_split fs k;rw[←List.length_append,←e]
      have hat1:Hid (from_+((ebs (fs.take k)).length:Int)+((fby (gf fs k)).length:Int)=from_+((ebs (fs.take (k+1))).length:Int)):=hide (by rw[ebs_take fs k hkf2];omega)
      have hsum1:(ebs fs).length=(ebs (fs.take (k+1))).length+(ebs (fs.drop (k+1))).length:=by
       have e:=ebs_split fs (k+1);rw[←List.length_append,←e]
      have htk:=ebs_take fs k hkf2
      have hfbl:(fby (gf fs k)).length≤4194304:=by omega
      have hdl4:(gf fs k).dat.length≤4194304:=by
       by_cases ht:(gf fs k).ty=2
       ·have:=fby_dat ht;omega
       ·unfold fits at hk3
        rw[if_neg ht] at hk3
        rw[hk3.1]
        simp
      have hOw:=hFt.out.2.2.1 k (by rw[hFt.out.2.1];exact hkf2)
      obtain⟨fda,fdc,hus,hBd,hblk⟩:=own_told hOw hdl4;rw[hus] at hOw
      have hat0:0≤from_+((ebs (fs.take k)).length:Int)∧from_+((ebs (fs.take k)).length:Int)≤4611686018427387904:=by omega
      have hFk:Fdk y (fun b=>w0.heap.size≤b∧b<y.heap.size) (gf fs k) fda fdc (from_+((ebs (fs.take k)).length:Int)):=⟨hBd,own_capT hOw,fun a e=>⟨⟨(hblk a e).2,(hblk a e).1⟩,(hblk a e).1⟩,hfo,hk0,hk1,hk2,hfbl,hat0.1,by omega,own_down_row hOw (Nat.zero_le _),fun k_ q=>own_high_row hOw k_ q⟩
      have hvk:=hide (vlT_take ts fs k hlt hkf2)
      have cE:=hide (fun V=>a_endOf (gf fs k) fda fdc (from_+((ebs (fs.take k)).length:Int)) hat0 hfo hk0 hk1 hk2 V)
      have cD:=hide (fun V (hV:Below y.heap.size y V)=>a_slotDecodeT (gs ts k).no wt k1 k2 k3 a1 a2 a3 (gf fs k).no (gf fs k).ty (gf fs k).num fda (gf fs k).dat.length fdc (from_+((ebs (fs.take k)).length:Int)) (rdT utf flE (gs ts k) (gf fs k) (from_+((ebs (fs.take k)).length:Int))) (fun b=>w0.heap.size≤b∧b<y.heap.size) (vlS (gs ts k) (gf fs k)) V (fun b hb=>by have:=hV.size;omega) hent (fun V' hV' _ hty=>hcall _ (gf fs k) fda fdc _ V' (hFk.keep (Below.after hV hV')) (hwy.out.trans ((Below.after hV hV').mono (by have:=hwy.out.size;omega))) (hty.trans hwt.out)))
      obtain⟨F,hF⟩:∃F,dsT utf flE (gs ts k) (gf fs k) (from_+((ebs (fs.take k)).length:Int))=F:=⟨_,rfl⟩;rw[hF] at eR
      rw[show(if(gf fs k).no≠(gs ts k).no then some ⟨0,from_+((ebs (fs.take k)).length:Int),81⟩ else if(gf fs k).ty≠wt then some ⟨0,from_+((ebs (fs.take k)).length:Int),82⟩ else rdT utf flE (gs ts k) (gf fs k) (from_+((ebs (fs.take k)).length:Int)))=F by rw[←hF,dsT,dsN,←hwt.out];rfl] at cD
      replace eR:=hide eR
      have hfl3:(gf fs k).dat.length<9223372036854775808:=by omega
      unfold rdv frow at *
      rw[hus] at hfrow;rw[hat1.out] at eR;clear hcall hSl hF hus hfo hk0 hk1 hk2 hk3 hat0 hwt hFk hOw hBd hblk hdl4 hfbl htk hsum1 hsum hsl
      generalize vlS (gs ts k) (gf fs k)=X at *
      generalize from_+((ebs (fs.take k)).length:Int)=at_ at *
      generalize ((fby (gf fs k)).length:Int)=FL at *
      generalize (gf fs k).no=fno at *
      generalize (gf fs k).ty=fty at *
      generalize (gf fs k).num=fnum at *
      generalize (gf fs k).dat.length=fdl at *
      generalize (gs ts k).no=no at *
      replace hby:=hide hby;replace hPw:=hide hPw;replace rS2:=hide rS2;replace hfrow:=hide hfrow
      go_upto_region 9 with(first|(refine wpList_load_mid rfl 114 _ rfl b (k*5) rfl _ _ hrw Tryz.underlying114 rfl infoSt' ?_)|(refine wpList_store_row rfl 114 _ _ rfl wr.heap.size #[.int .i64 no,.int .i64 wt,.func (.func k1) #[] a1,.func (.func k2) #[] a2,.func (.func k3) #[] a3] rfl rfl 114 _ rS infoSt' rfl hone ?_)|fail)
      try unfold WpStay
      generalize (wr.alloc (.cells #[.int .i64 0,.int .i64 0,.nilFunc,.nilFunc,.nilFunc] 114)).setRow wr.heap.size #[.int .i64 no,.int .i64 wt,.func (.func k1) #[] a1,.func (.func k2) #[] a2,.func (.func k3) #[] a3]=x0 at *
      go_upto_region 11 with(fail)
      have hbd:Below x0.heap.size x0 x0.drew:=below_drN (Below.refl _ _) 1
      have HS:(fun W:World=>W.heap[wr.heap.size]? =some (.cells #[.int .i64 no,.int .i64 wt,.func (.func k1) #[] a1,.func (.func k2) #[] a2,.func (.func k3) #[] a3] 114 (0,0))∧W.rangeAt fb (k*4) [.int .i64 fno,.int .i64 fty,.int .u64 (fnum:Int),.slice fda fdl fdc]) x0.drew:=⟨rS2.out,hfrow.out⟩
      replace hPw:=hPw.out.keep hbd;replace hby:=Below.after hby.out hbd
      have hi9:0≤(k:Int)∧(k:Int)<(fs.length:Int):=by omega
      clear hbd rS2 hfrow rS hfy hWw hrw hent hone hdk hdf hdf2 hkn hfok h
      generalize wr.heap.size=gS at *
      refine wp_region_held (S:=fun W:World=>W.heap[gS]? =some (.cells #[.int .i64 no,.int .i64 wt,.func (.func k1) #[] a1,.func (.func k2) #[] a2,.func (.func k3) #[] a3] 114 (0,0))∧W.rangeAt fb (k*4) [.int .i64 fno,.int .i64 fty,.int .u64 (fnum:Int),.slice fda fdl fdc]) (by kernel_rfl) ?_
      change wpAnyH _ _ _ _ _ _ _ _ (World.drew _)
      generalize x0.drew=x1 at *
      refine wTy 0 ?v8 rfl ?y8 HS ?r8
      case y8=>
       intro w_ hS_;go_simp
       try with_reducible rfl
      simp only[Act.put,ZPa,ZPc,ZPd,ZPe,ZPf]
      refine wTk (i:=1) (v:=.agg #[.int .i64 no,.int .i64 wt,.func (.func k1) #[] a1,.func (.func k2) #[] a2,.func (.func k3) #[] a3]) rfl (yieldsIf_load_mid (by rfl) 114 _ rfl gS 0 rfl [.int .i64 no,.int .i64 wt,.func (.func k1) #[] a1,.func (.func k2) #[] a2,.func (.func k3) #[] a3] _ (fun _ h=>range_row ⟨_,h.1⟩) Tryz.underlying114 rfl infoSt') HS ?_
      simp only[Act.put,ZPa,ZPb,ZPc,ZPd,ZPe,ZPf];refine wTy 2 ?v10 rfl ?y10 HS ?r10
      case y10=>
       intro w_ hS_;go_simp
       try with_reducible rfl
      simp only[Act.put,ZPa,ZPb,ZPc,ZPd,ZPe,ZPf];refine wTy 3 ?v11 rfl ?y11 HS ?r11
      case y11=>
       intro w_ hS_;go_simp
       try with_reducible rfl
      simp only[Act.put,ZPa,ZPb,ZPc,ZPd,ZPe,ZPf];refine wTy 4 ?v12 rfl ?y12 HS ?r12
      case y12=>
       intro w_ hS_;go_simp
       try with_reducible rfl
      simp only[Act.put,ZPa,ZPb,ZPc,ZPd,ZPe,ZPf]
      refine wTk (i:=5) (v:=.agg #[.int .i64 fno,.int .i64 fty,.int .u64 (fnum:Int),.slice fda fdl fdc]) rfl (yieldsIf_load_mid (by rfl) 118 _ rfl fb (k*4) rfl [.int .i64 fno,.int .i64 fty,.int .u64 (fnum:Int),.slice fda fdl fdc] _ (fun _ h=>h.2) Tryz.underlying118 rfl infoFi) HS ?_
      simp only[Act.put,ZPa,ZPb,ZPc,ZPd,ZPe,ZPf];refine wTy 6 ?v14 rfl ?y14 HS ?r14
      case y14=>
       intro w_ hS_;go_simp
       try with_reducible rfl
      simp only[Act.put,ZPa,ZPb,ZPc,ZPd,ZPe,ZPf]
      refine wpAnyH_one (k:=7) (fuel:=3) (by kernel_rfl) rfl (by kernel_rfl) (fun K_ hK=>?_)
      refine wp_call_upW (base:=x1.heap.size) (F:=F) (R:=fun v w'=>∃x,v=.agg (vrv x)∧VtO w' (fun b=>(w0.heap.size≤b∧b<y.heap.size)∨x1.heap.size≤b) x X) (B:=fun w'=>Below x1.heap.size x1 w') (by kernel_rfl) (cD.out x1 hby) ?_ ?_
      ·rintro hF v_ x2 ⟨⟨xn,xda,xdl,xdc,xpa,xpl,xpc⟩,rfl,hvt⟩ hb_
       rw[hF] at eR
       have lgs:=lt_of_row HS.1;have szy1:=hby.size;have szw0:=szy0.out;have lgsx:gS<x1.heap.size:=lgs;replace hPw:=hPw.keep hb_;have szb_x2:=hb_.size
       have HS':(fun W:World=>W.heap[gS]? =some (.cells #[.int .i64 no,.int .i64 wt,.func (.func k1) #[] a1,.func (.func k2) #[] a2,.func (.func k3) #[] a3] 114 (0,0))∧W.rangeAt fb (k*4) [.int .i64 fno,.int .i64 fty,.int .u64 (fnum:Int),.slice fda fdl fdc]) _:=⟨keep hb_ HS.1,rangeS_keep2 HS.2 hb_ (by omega)⟩
       replace HS:=HS';clear HS';replace hby:=Below.after hby hb_
       replace hvt:VtO x2 (fun b=>w0.heap.size≤b∧pv.ownBlock≠some b) ⟨xn,xda,xdl,xdc,xpa,xpl,xpc⟩ X:=hvt.wid (fun b hq=>by
        rcases hq with q|q
        ·exact⟨q.1,fun e=>by have:=(hpo b e).1;omega⟩
        ·exact⟨by omega,fun e=>by have:=(hpo b e).2;omega⟩)
       clear hb_;refine hK _ _ HS ?_;simp only[Act.put,ZPa,ZPb,ZPc,ZPd,ZPe,ZPf];clear hK
       refine wpAnyH_one (k:=8) (fuel:=2) (by kernel_rfl) rfl (by kernel_rfl) (fun K_ hK=>?_)
       refine wp_world_op (.slice (some ⟨x2.heap.size,0,none⟩) 1 1) (x2.alloc (.cells #[.int .u64 (xn:Int),.slice xda xdl xdc,.slice xpa xpl xpc] 27)) (op_bv1 _ rfl _ _ _ rfl) ?_;have NV:=new_cells4 x2 #[.int .u64 (xn:Int),.slice xda xdl xdc,.slice xpa xpl xpc] 27;have hb_:Below x2.heap.size x2 (x2.alloc (.cells #[.int .u64 (xn:Int),.slice xda xdl xdc,.slice xpa xpl xpc] 27)):=(Below.refl _ _).alloc (Nat.le_refl _) _;replace hPw:=hPw.keep hb_;have szb_x3:=hb_.size
       have HS':(fun W:World=>W.heap[gS]? =some (.cells #[.int .i64 no,.int .i64 wt,.func (.func k1) #[] a1,.func (.func k2) #[] a2,.func (.func k3) #[] a3] 114 (0,0))∧W.rangeAt fb (k*4) [.int .i64 fno,.int .i64 fty,.int .u64 (fnum:Int),.slice fda fdl fdc]) _:=⟨keep hb_ HS.1,rangeS_keep2 HS.2 hb_ (by omega)⟩
       replace HS:=HS';clear HS';replace hby:=Below.after hby hb_;replace hvt:=hvt.blw hb_;clear hb_;refine hK _ _ HS ?_;simp only[Act.put,ZPa,ZPb,ZPc,ZPd,ZPe,ZPf];clear hK
       generalize x2.alloc (.cells #[.int .u64 (xn:Int),.slice xda xdl xdc,.slice xpa xpl xpc] 27)=x3 at *
       generalize x2.heap.size=gV at *
       refine wpAnyH_one (k:=9) (fuel:=1) (by kernel_rfl) rfl (by kernel_rfl) (fun K_ hK=>?_)
       obtain⟨iV,hiV,hiz,his,hib⟩:=infoVI;have hOk:=hPw.1;rw[hlk.out] at hOk
       refine wp_append_nx _ _ 25 rfl y.heap.size 27 iV (.agg #[.int .u64 0,nS,nS]) 3 56 Tryz.underlying25 hiV hiz his hib rfl (by decide) pv k (vrs xs) rfl hOk ⟨gV,0,none⟩ 1 1 [.int .u64 (xn:Int),.slice xda xdl xdc,.slice xpa xpl xpc] rfl rfl NV (fun x hx=>?_) (by unfold maxLen;omega) (by omega) hby.size (fun pv' x4 hO4 hgr hnx=>?_)
       ·simp at hx
        rcases hx with rfl|rfl|rfl<;>rfl
       have HS4:(fun W:World=>W.heap[gS]? =some (.cells #[.int .i64 no,.int .i64 wt,.func (.func k1) #[] a1,.func (.func k2) #[] a2,.func (.func k3) #[] a3] 114 (0,0))∧W.rangeAt fb (k*4) [.int .i64 fno,.int .i64 fty,.int .u64 (fnum:Int),.slice fda fdl fdc]) x4:=⟨(hgr.block gS (lt_of_row HS.1) (fun e=>by have:=(hpo gS e.symm).2;omega)).trans HS.1,fun j v hv=>(World.cell?_of_block (hgr.block fb (by omega) (fun e=>by have:=(hpo fb e.symm).1;omega))).trans (HS.2 j v hv)⟩
       have hP4:=hPw.snoc hvt (by rw[hlk.out];exact hO4) hgr hnx
       have szy:=hby.size
       replace hby:=hby.grown hgr szy (fun z e=>(hpo z e).1)
       refine hK _ _ HS4 ?_;simp only[Act.put,ZPa,ZPb,ZPc,ZPd,ZPe,ZPf];clear hK HS hPw hvt hOk hO4 hgr hnx;refine wTy 10 ?v99 rfl ?y99 HS4 ?r99
       case y99=>
        intro w_ hS_;go_simp
        try with_reducible rfl
       simp only[Act.put,ZPa,ZPb,ZPc,ZPd,ZPe,ZPf]
       refine wpAnyH_done (by kernel_rfl) ?_ _
       have hF4:=HS4.2;clear HS4 NV;replace hP4:=hide hP4;replace hby:=hide hby
       go_wp2_with (first|(refine wpList_load_mid rfl 118 _ rfl fb (k*4) rfl _ _ hF4 Tryz.underlying118 rfl infoFi ?_)|fail)
       refine(cE.out x4).mono ?_;rintro e_ x5 ⟨_,rfl,rfl,hb_⟩;replace hP4:=hide (hP4.out.keep hb_);replace hby:=hide (Below.after hby.out hb_);clear hb_ cE hF4
       go_wp2_with (fail)
       refine⟨⟨k+1,_,by omega,by omega,by go_num,by rw[hat1.out],eR.out,by rw[hvk.out];exact hP4.out,hby.out⟩,?_⟩
       simp[intOf];omega
      ·intro x hF g x2 h1_ h2_ hb_
       rw[hF] at eR
       have szx:=hby.size;have szy:=hw0.out.size;replace hby:=Below.after hby hb_
       go_wp2_with (fail)
       rw[eR.out]
       exact⟨rfl,⟨g,rfl,by omega,h2_⟩,hw0.out.trans (hby.mono (by omega))⟩
    ·obtain rfl:k=ts.length:=by omega
     generalize u10=pv at *
     have hdk:decide ((ts.length:Int)<(ts.length:Int))=false:=by simp
     have szy:=hby.size;clear h hsl hkn hfok hnn
     by_cases hlf:ts.length<fs.length
     ·rw[dcT_long utf flE rfl hlf] at eR
      have hdl:decide ((ts.length:Int)<(fs.length:Int))=true:=by simp;omega
      replace eR:=hide eR;replace hby:=hide hby;clear hPw hlk
      generalize from_+((ebs (fs.take ts.length)).length:Int)=at_ at *
      go_wp2_with (fail)
      refine(a_giveUp 0 at_ 81 _).mono ?_;rintro e_ x2 ⟨⟨g,rfl,hgl,hgr⟩,hb2⟩;have szx:=hby.out.size;have szy:=hw0.out.size;have hz:=Below.after hby.out hb2
      go_wp2
      rw[eR.out]
      exact⟨rfl,⟨g,rfl,by omega,hgr⟩,hw0.out.trans (hz.mono (by omega))⟩
     ·have hle:fs.length=ts.length:=by omega
      rw[dcT_end utf flE rfl hle] at eR
      have hdl:decide ((ts.length:Int)<(fs.length:Int))=false:=by simp;omega
      rw[List.take_length,show fs.take ts.length=fs by rw[←hle,List.take_length]] at hPw hlk
      obtain⟨pa,pc,epv,hmsg⟩:=hPw.msg szy0.out (by rw[hlk.out];omega)
      rw[hlk.out] at epv hmsg;subst epv
      have rZ3:=(hby.block w.heap.size (by omega)).trans rZ1.out
      have hone:(#[Value.int .u64 0,nS,.slice pa ts.length pc]:Array Value).all (·.oneCell')=true:=by simp[Value.oneCell']
      have RF:=hide (setRow_heap wr w.heap.size _ #[.int .u64 0,nS,.slice pa ts.length pc] _ _ rZ3)
      have hwF:=hide (below_setRow (g:=w.heap.size) (hw0.out.trans (hby.mono (by omega))) (Nat.le_refl _) #[.int .u64 0,nS,.slice pa ts.length pc])
      have hvF:Hid (VtO (wr.setRow w.heap.size #[.int .u64 0,nS,.slice pa ts.length pc]) (fun b=>w.heap.size≤b) ⟨0,none,0,0,pa,ts.length,pc⟩ (.mk 0 [] (vlT ts fs))):=hide (hmsg.other _ _ (fun b hb_=>⟨by omega,by omega⟩))
      replace eR:=hide eR;clear hPw hby hw0 hwy rZ1 hmsg hlk;replace hle:=hide hle
      go_wp2_with (first|(refine wpList_store_row rfl 27 _ _ rfl w.heap.size #[.int .u64 0,nS,.slice pa ts.length pc] rfl rfl 27 _ rZ3 infoV rfl hone ?_)|fail)
      refine bodyPost_ret (v:=.agg #[.int .u64 0,nS,.slice pa ts.length pc]) (results_cell_row Tryz.results38 _ _ w.heap.size _ _ _ _ rfl RF.out Tryz.underlying27 rfl infoV) rfl ⟨?_,hwF.out⟩;rw[eR.out]
      exact⟨_,rfl,⟨0,none,0,0,pa,ts.length,pc⟩,rfl,by rw[hfs.out];exact hvF.out⟩
  ·have eR:R=some ⟨0,from_+dpl (dwh d),der (dwh d)⟩:=by rw[←hR,deT,decN,if_pos hde]
   have hd1:(der (dwh d)==0)=false:=by simpa using hde
   replace eR:=hide eR;replace hde:=hide hde;have hpl:=dpl_bd d;clear hR h hsl hnn hFt
   generalize der (dwh d)=E at *
   generalize dpl (dwh d)=pl at *
   have q1:IntKind.wrap .i64 (from_+pl)=from_+pl:=by rw[IntKind.wrap_i64];omega
   go_wp2_with (fail)
   refine(a_giveUp 0 (from_+pl) E _).mono ?_;rintro e_ x2 ⟨⟨g,rfl,hgl,hgr⟩,hb2⟩;have szx:=(Below.refl y.heap.size y).size;have szy:=hw0.out.size;have hz:=Below.after (Below.refl y.heap.size y) hb2
   go_wp2
   rw[eR.out]
   exact⟨rfl,⟨g,rfl,by omega,hgr⟩,hw0.out.trans (hz.mono (by omega))⟩
section
variable (utf : List B → Bool) (flE : Nat → Nat → Int)
theorem ck_none {ts:List Slt} {x:VT} {deep:Int} (h:ckT utf flE ts x deep=none):x.num=0∧x.dat=[]∧x.parts.length=ts.length∧chT utf flE ts x.parts deep=none:=by
 unfold ckT ckN at h
 split at h
 ·cases h
 ·rename_i h1
  split at h
  ·cases h
  ·rename_i h2
   exact⟨by omega,List.eq_nil_of_length_eq_zero (by omega),by omega,h⟩
theorem frs_none {f:VT→Option Flt3}:∀{xs:List VT},frsT f xs=none→∀p∈xs,f p=none
 |[],_,p,hp=>by simp at hp
 |x::xs,h,p,hp=>by
  rw[frsT] at h
  cases hx:f x with
  |some e=>rw[hx] at h;cases h
  |none=>
   rw[hx] at h
   rcases List.mem_cons.1 hp with rfl|hp
   ·exact hx
   ·exact frs_none h p hp
theorem wf_ck:∀(ts:List Slt) (xs:List VT) (deep:Int),chT utf flE ts xs deep=none→xs.length=ts.length→wfT ts xs
 |[],xs,deep,_,_=>by rw[wfT];exact trivial;intros;contradiction
 |_::_,[],_,_,h=>by simp at h
 | .mk no k l m sub::ts,x::xs,deep,h,hl=>by
  rw[chT_cons] at h
  cases hs:slT utf flE (.mk no k l m sub) x deep with
  |some f=>rw[hs] at h;cases h
  |none=>
   rw[hs] at h;rw[wfT_cons]
   refine⟨fun hk=>?_,fun hk p hp=>?_,wf_ck ts xs deep h (by simpa using hl)⟩
   ·rw[slT_msg utf flE hk] at hs
    obtain⟨_,_,h3,h4⟩:=ck_none utf flE hs
    exact⟨h3,wf_ck sub x.parts _ h4 h3⟩
   ·rw[slT_lst utf flE hk] at hs
    split at hs
    ·cases hs
    ·split at hs
     ·cases hs
     ·obtain⟨_,_,h3,h4⟩:=ck_none utf flE (frs_none hs p hp)
      exact⟨h3,wf_ck sub p.parts _ h4 h3⟩
end
theorem a_CheckT {utf:List B→Bool} {flE:Nat→Nat→Int} {G:World→Prop} (hp:Plo utf flE G) {g:Nat} {ts:List Slt} (S:Nat→Prop) (x:VR) (X:VT) (w:World) (hG:G w) (hC:Cdc w g ts) (hX:VtM w S x X) (hh:1+(htT ts:Int)≤9223372036854775807):
 Calls Tryz.prog 12 #[.pointer (some ⟨g,0,none⟩),.agg (vrv x)] w fun e w'=>Cgt w.heap.size (ckT utf flE ts X 1) e w'∧Below w.heap.size w w':=by
 obtain⟨xv,hR,hg⟩:=hC;obtain⟨xo,xc,rfl⟩:=hR.form
 have hcf:=fun V hV=>a_checkT hp hR hG S x X 1 V (hX.blw hV) hV (by omega) hh
 clear hX hh;obtain⟨n,da,dl,dc,pa,pl,pc⟩:=x
 unfold vrv at hcf⊢
 generalize ckT utf flE ts X 1=F at *
 unfold vrw at hcf⊢
 have hb:Below w.heap.size w ((w.alloc (.cells #[.pointer (some ⟨g,0,none⟩)] 30)).alloc (.cells #[.int .u64 (n:Int),.slice da dl dc,.slice pa pl pc] 27)):=((Below.refl _ _).alloc (Nat.le_refl _) _).alloc (by simp) _
 have r0:=hp2_0 w (.cells #[.pointer (some ⟨g,0,none⟩)] 30) (.cells #[.int .u64 (n:Int),.slice da dl dc,.slice pa pl pc] 27);have r1:=hp2_1 w (.cells #[.pointer (some ⟨g,0,none⟩)] 30) (.cells #[.int .u64 (n:Int),.slice da dl dc,.slice pa pl pc] 27);have rg:=keep hb hg
 have cK:=a_caughtC F (.pointer (some ⟨w.heap.size,0,none⟩)) (.pointer (some ⟨w.heap.size+1,0,none⟩)) ((w.alloc (.cells #[.pointer (some ⟨g,0,none⟩)] 30)).alloc (.cells #[.int .u64 (n:Int),.slice da dl dc,.slice pa pl pc] 27)) (fun V hV=>a_check1 F w.heap.size (w.heap.size+1) g xo ts.length xc _ _ n da dl dc pa pl pc V ⟨_,keep hV r0⟩ ⟨_,keep hV r1⟩ ⟨_,keep hV rg⟩ (fun V' hV'=>hcf V' (Below.after (Below.after hb hV) hV')))
 have h0:=hmf;have A1:=hide hb;clear hcf hb r0 r1 rg hg hR
 go_enter Tryz.func12,Tryz.ntmps12
 go_wp2_with (fail)
 refine cK.mono ?_;rintro e_ w1 ⟨hG,hb1⟩;replace hb1:=Below.after A1.out hb1;have hsz:=A1.out.size
 cases F with
 |none=>
  obtain rfl:e_=.returned .nilIface:=hG
  go_wp2_with (fail)
  go_ret;exact⟨rfl,hb1⟩
 |some f=>
  obtain⟨q,rfl,h1,h2⟩:=hG
  go_wp2_with (fail)
  go_ret;exact⟨⟨q,rfl,Nat.le_trans hsz h1,h2⟩,hb1⟩
theorem a_EncodeT {utf:List B→Bool} {flE:Nat→Nat→Int} {G:World→Prop} (hp:Plo utf flE G) {g:Nat} {ts:List Slt} (hgd:gd ts) (S:Nat→Prop) (x:VR) (X:VT) (w:World) (hG:G w) (hC:Cdc w g ts) (hX:VtM w S x X) (hh:1+(htT ts:Int)≤9223372036854775807):
 Calls Tryz.prog 15 #[.pointer (some ⟨g,0,none⟩),.agg (vrv x)] w fun e w'=>Enc w.heap.size (ckT utf flE ts X 1) (enT ts X) e w'∧Below w.heap.size w w':=by
 have cK:=hide (fun V hV=>a_CheckT hp S x X V (hp.keep _ _ hG hV) (hC.keep hV) (hX.blw hV) hh)
 have hCh:=hide hC;obtain⟨xv,hR,hg⟩:=hC;obtain⟨xo,xc,rfl⟩:=hR.form
 have hX2:VtM w (fun b=>b<w.heap.size) x X:=hX.keep ⟨Nat.le_refl _,fun b hb _=>⟨rfl,hb⟩⟩
 have hln:ckT utf flE ts X 1=none→X.parts.length=ts.length∧wfT ts X.parts:=fun h=>by
  obtain⟨_,_,h3,h4⟩:=ck_none utf flE h;exact⟨h3,wf_ck utf flE ts X.parts 1 h4 h3⟩
 have cE:=hide (fun V (hV:Below w.heap.size w V) (hx:X.parts.length=ts.length∧wfT ts X.parts)=>a_encodeT hR hgd w.heap.size x X V (hX2.blw hV) hV hx.1 hx.2 hV.size)
 clear hX hX2 hh hG hgd;obtain⟨n,da,dl,dc,pa,pl,pc⟩:=x
 unfold vrv vrw at cK cE⊢
 generalize enT ts X=L at *
 generalize hFF:ckT utf flE ts X 1=F at *
 generalize ((prS ts).1:Int)=lo at *
 generalize ((prS ts).2:Int)=hi at *
 have hb0:Below w.heap.size w (w.alloc (.cells #[.int .u64 (n:Int),.slice da dl dc,.slice pa pl pc] 27)):=(Below.refl _ _).alloc (Nat.le_refl _) _;have rV:=hp1_0 w (.cells #[.int .u64 (n:Int),.slice da dl dc,.slice pa pl pc] 27);have cK1:=cK.out _ hb0;have rg:=keep hb0 hg;have hbv:=bVal #[.int .u64 (n:Int),.slice da dl dc,.slice pa pl pc];clear hFF hR hg cK hCh
 go_enter Tryz.func15,Tryz.ntmps15
 go_wp2_with (first|(refine wpList_load_want rfl 27 _ rfl w.heap.size rfl 27 #[.int .u64 (n:Int),.slice da dl dc,.slice pa pl pc] (0,0) _ rV Tryz.underlying27 rfl infoV ?_)|fail)
 refine cK1.mono ?_;rintro e_ w1 ⟨hG,hb1⟩;replace rV:=keep hb1 rV;replace rg:=keep hb1 rg;have hs1:=hb1.size;replace hb1:=Below.after hb0 hb1;have hs0:=size_alloc1 w (.cells #[.int .u64 (n:Int),.slice da dl dc,.slice pa pl pc] 27);clear cK1 hb0 hbv
 cases F with
 |none=>
  obtain rfl:e_=.returned .nilIface:=hG;have hx:=hln rfl;have hq:=neq_nils;clear hln
  go_wp2_with (fail)
  have hS0:(fun W:World=>Bx W w.heap.size #[.int .u64 (n:Int),.slice da dl dc,.slice pa pl pc]∧Bx W g #[.slice xo ts.length xc,.int .i64 lo,.int .i64 hi]) w1:=⟨⟨_,rV⟩,⟨_,rg⟩⟩
  refine wp_region_held (S:=fun W:World=>Bx W w.heap.size #[.int .u64 (n:Int),.slice da dl dc,.slice pa pl pc]∧Bx W g #[.slice xo ts.length xc,.int .i64 lo,.int .i64 hi]) (by kernel_rfl) ?_
  change wpAnyH _ _ _ _ _ _ _ _ (World.drew _)
  have hbd:Below w1.heap.size w1 w1.drew:=below_drN (Below.refl _ _) 1
  replace hS0:(fun W:World=>Bx W w.heap.size #[.int .u64 (n:Int),.slice da dl dc,.slice pa pl pc]∧Bx W g #[.slice xo ts.length xc,.int .i64 lo,.int .i64 hi]) w1.drew:=hS0
  replace hb1:=Below.after hb1 hbd;have cC2:=cE.out w1.drew hb1;clear cE hbd rV rg
  generalize w1.drew=w2 at *
  refine wTy 0 ?v1 rfl ?y1 hS0 ?r1
  case y1=>
   intro w_ hS_;go_simp
   try with_reducible rfl
  simp only[Act.put,ZPa,ZPc,ZPd,ZPe,ZPf];refine wTy 1 ?v2 rfl ?y2 hS0 ?r2
  case y2=>
   intro w_ hS_;go_simp
   try with_reducible rfl
  simp only[Act.put,ZPa,ZPb,ZPc,ZPd,ZPe,ZPf];refine wTy 2 ?v3 rfl ?y3 hS0 ?r3
  case y3=>
   intro w_ hS_;go_simp
   try with_reducible rfl
  simp only[Act.put,ZPa,ZPb,ZPc,ZPd,ZPe,ZPf];refine wTy 3 (.slice xo ts.length xc) rfl ?y4 hS0 ?r4
  case y4=>
   intro w_ hS_;obtain⟨_,h_⟩:=hS_.2;have c_:=cell_of_row _ _ 0 _ _ _ h_;go_simp
   try with_reducible rfl
  simp only[Act.put,ZPa,ZPb,ZPc,ZPd,ZPe,ZPf]
  refine wTk (i:=4) (v:=.agg #[.int .u64 (n:Int),.slice da dl dc,.slice pa pl pc]) rfl (yieldsIf_load_mid (by rfl) 27 _ rfl w.heap.size 0 rfl [.int .u64 (n:Int),.slice da dl dc,.slice pa pl pc] _ (fun _ h=>range_row h.1) Tryz.underlying27 rfl infoV) hS0 ?_
  simp only[Act.put,ZPa,ZPb,ZPc,ZPd,ZPe,ZPf];have cC3:=cC2 hx;clear cC2 hx
  refine wpAnyH_one (k:=5) (fuel:=2) (by kernel_rfl) rfl (by kernel_rfl) (fun K_ hK=>?_)
  refine wp_call_ex (R:=fun u w'=>Own w' w2.heap.size u L∧Below w2.heap.size w2 w') (by kernel_rfl) cC3 (fun u w3 hX_=>?_)
  obtain⟨hU,hb3⟩:=hX_;have hU2:=own_down hU hb1.size;have hb4:=Below.after hb1 hb3;have hS3:_∧_:=⟨hS0.1.keep hb3,hS0.2.keep hb3⟩;refine hK _ _ hS3 ?_;simp only[Act.put,ZPa,ZPb,ZPc,ZPd,ZPe,ZPf];clear hK cC3 hS0 hU hb3;obtain⟨ua,uc,rfl⟩:=slen_own hU2
  refine wpAnyH_one (k:=6) (fuel:=1) (by kernel_rfl) rfl (by kernel_rfl) (fun K_ hK=>?_)
  refine wp_pure_op (.slice ua L.length uc) (by kernel_rfl) ?_
  refine hK _ _ hS3 ?_;simp only[Act.put,ZPa,ZPb,ZPc,ZPd,ZPe,ZPf];clear hK
  refine wpAnyH_one (k:=7) (fuel:=0) (by kernel_rfl) rfl (by kernel_rfl) (fun K_ hK=>?_)
  refine wp_pure_op .nilIface (by kernel_rfl) ?_
  refine hK _ _ hS3 ?_;simp only[Act.put,ZPa,ZPb,ZPc,ZPd,ZPe,ZPf];clear hK hS3
  refine wpAnyH_done (by kernel_rfl) ?_ _
  go_wp2_with (fail)
  go_ret2;exact⟨⟨_,rfl,hU2⟩,hb4⟩
 |some f=>
  obtain⟨q,rfl,h1,h2⟩:=hG;have hq:=neq_fault (.pointer (some ⟨q,0,none⟩));clear rV rg
  go_wp2_with (fail)
  go_ret2
  exact⟨⟨q,rfl,by omega,h2⟩,hb1⟩
theorem a_decode1T (F:Option Flt3) (Rs:World→VR→Prop) (bc bb bv g:Nat) (b:Value) (xo:Option Addr) (xn xc:Nat) (lo hi:Int) (cur:Array Value) (hcur:cur.size=3) (w:World)
 (hc:Bx w bc #[.pointer (some ⟨g,0,none⟩)]) (hb:Bx w bb #[b]) (hg:Bx w g #[.slice xo xn xc,.int .i64 lo,.int .i64 hi]) (hv:w.heap[bv]? =some (.cells cur 27 (0,0))) (hbs:∃ao l c,b=.slice ao l c)
 (cC:∀V,Below w.heap.size w V→Calls Tryz.prog 38 #[.slice xo xn xc,b,.int .i64 0] V fun e w'=>Gup V.heap.size F e w' (fun u=>∃x,u=.agg (vrv x)∧Rs w' x)∧Below V.heap.size V w')
 (hst:∀V V' x,w.heap.size≤V.heap.size→Rs V x→But bv V V'→Rs V' x) (hne:bc≠bv∧bb≠bv∧g≠bv):
 Calls Tryz.prog 37 #[.pointer (some ⟨bc,0,none⟩),.pointer (some ⟨bb,0,none⟩),.pointer (some ⟨bv,0,none⟩)] w fun e w'=>Gup w.heap.size F e w' (fun v=>v=.tuple #[]∧∃x,w'.heap[bv]? =some (.cells (vrv x) 27 (0,0))∧Rs w' x)∧((F≠none→Below w.heap.size w w')∧But bv w w'):=by
 obtain⟨bao,bl_,bcc,rfl⟩:=hbs
 go_enter Tryz.func37,Tryz.ntmps37
 have hbd:Below w.heap.size w w.drew:=below_drN (Below.refl _ _) 1
 have hS0:(fun W:World=>Bx W bc #[.pointer (some ⟨g,0,none⟩)]∧Bx W bb #[.slice bao bl_ bcc]∧Bx W g #[.slice xo xn xc,.int .i64 lo,.int .i64 hi]) w.drew:=⟨hc.keep hbd,hb.keep hbd,hg.keep hbd⟩
 have hv1:=keep hbd hv;have cC2:=hide (cC w.drew hbd);have lbv:=lt_of_row hv;clear cC
 refine wp_region_held (S:=fun W:World=>Bx W bc #[.pointer (some ⟨g,0,none⟩)]∧Bx W bb #[.slice bao bl_ bcc]∧Bx W g #[.slice xo xn xc,.int .i64 lo,.int .i64 hi]) (by kernel_rfl) ?_
 change wpAnyH _ _ _ _ _ _ _ _ (World.drew _)
 generalize w.drew=w1 at *
 refine wTy 0 (.pointer (some ⟨g,0,none⟩)) rfl ?y8 hS0 ?r8
 case y8=>
  intro w_ hS_;obtain⟨_,h_⟩:=hS_.1;have c_:=cell_of_row _ _ 0 _ _ _ h_;go_simp
  try with_reducible rfl
 simp only[Act.put,ZPa,ZPc,ZPd,ZPe,ZPf];refine wTy 1 ?v9 rfl ?y9 hS0 ?r9
 case y9=>
  intro w_ hS_;go_simp
  try with_reducible rfl
 simp only[Act.put,ZPa,ZPb,ZPc,ZPd,ZPe,ZPf];refine wTy 2 ?v10 rfl ?y10 hS0 ?r10
 case y10=>
  intro w_ hS_;go_simp
  try with_reducible rfl
 simp only[Act.put,ZPa,ZPb,ZPc,ZPd,ZPe,ZPf];refine wTy 3 (.slice xo xn xc) rfl ?y11 hS0 ?r11
 case y11=>
  intro w_ hS_;obtain⟨_,h_⟩:=hS_.2.2;have c_:=cell_of_row _ _ 0 _ _ _ h_;go_simp
  try with_reducible rfl
 simp only[Act.put,ZPa,ZPb,ZPc,ZPd,ZPe,ZPf];refine wTy 4 (.slice bao bl_ bcc) rfl ?y12 hS0 ?r12
 case y12=>
  intro w_ hS_;obtain⟨_,h_⟩:=hS_.2.1;have c_:=cell_of_row _ _ 0 _ _ _ h_;go_simp
  try with_reducible rfl
 simp only[Act.put,ZPa,ZPb,ZPc,ZPd,ZPe,ZPf]
 refine wpAnyH_one (k:=5) (fuel:=1) (by kernel_rfl) rfl (by kernel_rfl) (fun K_ hK=>?_)
 refine wp_call_upW w1.heap.size F (fun u w'=>∃x,u=.agg (vrv x)∧Rs w' x) (fun w'=>Below w1.heap.size w1 w') (by kernel_rfl) cC2.out ?_ ?_
 ·intro hF v_ w4 hX hb4
  obtain⟨⟨yn,xda,xdl,xdc,xpa,xpl,xpc⟩,rfl,hRs⟩:=hX
  subst hF
  have hS4:=(⟨hS0.1.keep hb4,hS0.2.1.keep hb4,hS0.2.2.keep hb4⟩:(fun W:World=>Bx W bc #[.pointer (some ⟨g,0,none⟩)]∧Bx W bb #[.slice bao bl_ bcc]∧Bx W g #[.slice xo xn xc,.int .i64 lo,.int .i64 hi]) w4)
  have hv4:=keep hb4 hv1;have hw4:=Below.after hbd hb4;refine hK _ _ hS4 ?_;simp only[Act.put,ZPa,ZPb,ZPc,ZPd,ZPe,ZPf];clear hK
  have hone:(#[Value.int .u64 (yn:Int),.slice xda xdl xdc,.slice xpa xpl xpc]:Array Value).all (·.oneCell')=true:=by simp[Value.oneCell']
  refine wpAnyH_one (k:=6) (fuel:=0) (by kernel_rfl) rfl (by kernel_rfl) (fun K_ hK=>?_)
  refine wp_store_row 27 _ _ rfl bv #[.int .u64 (yn:Int),.slice xda xdl xdc,.slice xpa xpl xpc] rfl rfl 27 _ hv4 infoV (by rw[hcur];rfl) hone ?_
  have hB5:=But.setRow (g:=bv) w4 #[.int .u64 (yn:Int),.slice xda xdl xdc,.slice xpa xpl xpc];have hv5:=setRow_heap w4 bv _ #[.int .u64 (yn:Int),.slice xda xdl xdc,.slice xpa xpl xpc] _ _ hv4;have hRs5:=hst _ _ _ hw4.size hRs hB5;have hbut:=(But.of hw4).trans hB5;refine hK _ _ ?_ ?_
  ·exact⟨hB5.keepBx hS4.1 hne.1,hB5.keepBx hS4.2.1 hne.2.1,hB5.keepBx hS4.2.2 hne.2.2⟩
  simp only[Act.put];clear hK
  refine wpAnyH_done (by kernel_rfl) ?_ _
  have A1:=hide hv5;have A2:=hide hRs5;have A3:=hide hbut;clear hv5 hRs5 hbut hB5 hS4 hv4 hw4 hRs hS0
  go_wp2_with (fail)
  go_end0
  exact⟨⟨_,rfl,rfl,⟨yn,xda,xdl,xdc,xpa,xpl,xpc⟩,A1.out,A2.out⟩,fun h=>absurd rfl h,A3.out⟩
 ·intro x hF g4 w4 h1 h2 hb4
  subst hF
  have hw4:=Below.after hbd hb4;have sz1:=hbd.size
  go_wp2_with (fail)
  exact⟨rfl,⟨g4,rfl,by omega,h2⟩,fun _=>hw4,But.of hw4⟩
def DcO (base:Nat) (F:Option Flt3) (X:VT) (e:Ending) (w':World):Prop:=
 match F with
 |none=>∃x,e=.returned (.tuple #[.agg (vrv x),.nilIface])∧VtO w' (fun b=>base≤b) x X
 |some x=>∃g,e=.returned (.tuple #[.agg #[.int .u64 0,nS,nS],.iface 70 (.pointer (some ⟨g,0,none⟩))])∧base≤g∧w'.heap[g]? =some (.cells (frw x) 41 (0,0))
theorem VtO.but {W V:World} {n g:Nat} {x:VR} {X:VT} (h:VtO W (fun b=>n≤b) x X) (hb:But g W V) (hg:g<n):VtO V (fun b=>n≤b) x X:=h.keep ⟨hb.size,fun b hlt hS=>⟨hb.block b hlt (by omega),hS⟩⟩
theorem a_DecodeO {utf:List B→Bool} {flE:Nat→Nat→Int} {G:World→Prop} (hp:Plo utf flE G) {g:Nat} {ts:List Slt} (d:List B) (b:Value) (w:World) (hG:G w) (hC:Cdc w g ts) (hB:BysB w b d) (hcap:∀a l c,b=.slice a l c→l≤c):
 Calls Tryz.prog 17 #[.pointer (some ⟨g,0,none⟩),b] w fun e w'=>DcO w.heap.size (deT utf flE ts d 0) (mgT ts d) e w'∧Below w.heap.size w w':=by
 have hdle:d.length≤140737488355000:=hB.2.1;obtain⟨bao,bcc,rfl⟩:=hB.form
 generalize hbl:d.length=bl_ at *
 obtain⟨x,hx,hg⟩:=hC;obtain⟨xo,xc,rfl⟩:=hx.form;have lg:=lt_of_row hg;have r0:=hp4_0 w (.cells #[.pointer (some ⟨g,0,none⟩)] 30) (.cells #[.slice bao bl_ bcc] 24) (.cells #[.int .u64 0,nS,nS] 27) (.cells #[.int .u64 0,nS,nS] 27);have r1:=hp4_1 w (.cells #[.pointer (some ⟨g,0,none⟩)] 30) (.cells #[.slice bao bl_ bcc] 24) (.cells #[.int .u64 0,nS,nS] 27) (.cells #[.int .u64 0,nS,nS] 27);have r2:=hp4_2 w (.cells #[.pointer (some ⟨g,0,none⟩)] 30) (.cells #[.slice bao bl_ bcc] 24) (.cells #[.int .u64 0,nS,nS] 27) (.cells #[.int .u64 0,nS,nS] 27);have r3:=hp4_3 w (.cells #[.pointer (some ⟨g,0,none⟩)] 30) (.cells #[.slice bao bl_ bcc] 24) (.cells #[.int .u64 0,nS,nS] 27) (.cells #[.int .u64 0,nS,nS] 27)
 have hb:Below w.heap.size w ((((w.alloc (.cells #[.pointer (some ⟨g,0,none⟩)] 30)).alloc (.cells #[.slice bao bl_ bcc] 24)).alloc (.cells #[.int .u64 0,nS,nS] 27)).alloc (.cells #[.int .u64 0,nS,nS] 27)):=((((Below.refl _ _).alloc (Nat.le_refl _) _).alloc (by simp) _).alloc (by simp;omega) _).alloc (by simp;omega) _
 have hsz:((((w.alloc (.cells #[.pointer (some ⟨g,0,none⟩)] 30)).alloc (.cells #[.slice bao bl_ bcc] 24)).alloc (.cells #[.int .u64 0,nS,nS] 27)).alloc (.cells #[.int .u64 0,nS,nS] 27)).heap.size=w.heap.size+4:=by simp
 have hB4:=hB.keep hb;have h0:=hmf;have hrd:Bx ((((w.alloc (.cells #[.pointer (some ⟨g,0,none⟩)] 30)).alloc (.cells #[.slice bao bl_ bcc] 24)).alloc (.cells #[.int .u64 0,nS,nS] 27)).alloc (.cells #[.int .u64 0,nS,nS] 27)) g #[.slice xo ts.length xc,.int .i64 ((prS ts).1:Int),.int .i64 ((prS ts).2:Int)]:=⟨_,(hb.block g lg).trans hg⟩;have b0:Bx ((((w.alloc (.cells #[.pointer (some ⟨g,0,none⟩)] 30)).alloc (.cells #[.slice bao bl_ bcc] 24)).alloc (.cells #[.int .u64 0,nS,nS] 27)).alloc (.cells #[.int .u64 0,nS,nS] 27)) w.heap.size #[.pointer (some ⟨g,0,none⟩)]:=⟨_,r0⟩;have b1:Bx ((((w.alloc (.cells #[.pointer (some ⟨g,0,none⟩)] 30)).alloc (.cells #[.slice bao bl_ bcc] 24)).alloc (.cells #[.int .u64 0,nS,nS] 27)).alloc (.cells #[.int .u64 0,nS,nS] 27)) (w.heap.size+1) #[.slice bao bl_ bcc]:=⟨_,r1⟩
 go_enter Tryz.func17,Tryz.ntmps17
 go_upto_region 2 with(fail)
 generalize ((((w.alloc (.cells #[.pointer (some ⟨g,0,none⟩)] 30)).alloc (.cells #[.slice bao bl_ bcc] 24)).alloc (.cells #[.int .u64 0,nS,nS] 27)).alloc (.cells #[.int .u64 0,nS,nS] 27))=w4 at *
 have hst:∀V V' x g',g'<w.heap.size+5→VtO V (fun b=>w.heap.size+5≤b) x (mgT ts d)→But g' V V'→VtO V' (fun b=>w.heap.size+5≤b) x (mgT ts d):=fun V V' x g' hg' hr hbut=>hr.but hbut hg'
 have cS:∀V,Below w4.heap.size w4 V→w4.heap.size<V.heap.size→Calls Tryz.prog 38 #[.slice xo ts.length xc,.slice bao bl_ bcc,.int .i64 0] V fun e w'=>Gup V.heap.size (deT utf flE ts d 0) e w' (fun u=>∃x,u=.agg (vrv x)∧VtO w' (fun b=>w.heap.size+5≤b) x (mgT ts d))∧Below V.heap.size V w':=by
  intro V hV hlt
  refine(a_decodeT hp hx hG V d (.slice bao bl_ bcc) 0 (by omega) (by rw[hbl];omega) (Below.after hb hV) (hB4.keep hV) hcap).mono fun e w' hX=>⟨hX.1.mp (fun v hv=>?_),hX.2⟩
  obtain⟨x,hv1,hv2⟩:=hv
  exact⟨x,hv1,hv2.wid (fun b hb_=>by omega)⟩
 have cA:=a_caughtD (deT utf flE ts d 0) (fun V=>∃x,V.heap[w.heap.size+1+1+1]? =some (.cells (vrv x) 27 (0,0))∧VtO V (fun b=>w.heap.size+5≤b) x (mgT ts d)) (.pointer (some ⟨w.heap.size,0,none⟩)) (.pointer (some ⟨w.heap.size+1,0,none⟩)) (.pointer (some ⟨w.heap.size+1+1+1,0,none⟩)) (w.heap.size+1+1+1) w4 (by omega)
  (fun V V' hq hbut=>by
   obtain⟨pv,hq1,hq2⟩:=hq
   exact⟨pv,hbut.row hq1 (by omega),hst V V' pv _ (by omega) hq2 hbut⟩)
  (fun V hV hlt=>a_decode1T (deT utf flE ts d 0) (fun V x=>VtO V (fun b=>w.heap.size+5≤b) x (mgT ts d)) w.heap.size (w.heap.size+1) (w.heap.size+1+1+1) g (.slice bao bl_ bcc) xo ts.length xc _ _ #[.int .u64 0,nS,nS] rfl V (b0.keep hV) (b1.keep hV) (hrd.keep hV) (keep hV r3) ⟨_,_,_,rfl⟩ (fun V' hV'=>cS V' (Below.after hV hV') (Nat.lt_of_lt_of_le hlt hV'.size)) (fun V1 V2 pv _ hr hbut=>hst V1 V2 pv _ (by omega) hr hbut) ⟨by omega,by omega,by omega⟩)
 replace cA:=hide cA;clear cS b0 b1 hrd hB4 hx hB hcap
 go_wp2_with (fail)
 refine cA.out.mono ?_;rintro e_ w5 ⟨hG,hbn,hBt⟩
 have r25:=hBt.row r2 (by omega)
 have hw5:=But.after hb (by omega) hBt
 clear cA;obtain⟨R,hR⟩:∃R,deT utf flE ts d 0=R:=⟨_,rfl⟩;rw[hR] at hG hbn;replace hR:=hide hR
 cases R with
 |none=>
  obtain⟨rfl,⟨yn,xda,xdl,xdc,xpa,xpl,xpc⟩,r35,hr⟩:=hG
  have hr':=hide (hst _ (w5.setRow (w.heap.size+1+1) #[.int .u64 (yn:Int),.slice xda xdl xdc,.slice xpa xpl xpc]) _ _ (by omega) hr (But.setRow (g:=w.heap.size+1+1) w5 #[.int .u64 (yn:Int),.slice xda xdl xdc,.slice xpa xpl xpc]))
  unfold vrv vrw at r35
  have hone:(#[Value.int .u64 (yn:Int),.slice xda xdl xdc,.slice xpa xpl xpc]:Array Value).all (·.oneCell')=true:=by simp[Value.oneCell']
  have RF:=hide (setRow_heap _ (w.heap.size+1+1) _ #[.int .u64 (yn:Int),.slice xda xdl xdc,.slice xpa xpl xpc] _ _ r25)
  have hwF:=hide (below_setRow (g:=w.heap.size+1+1) hw5 (by omega) #[.int .u64 (yn:Int),.slice xda xdl xdc,.slice xpa xpl xpc])
  clear hr hBt hbn hw5 hb hst
  go_wp2_with (first|(refine wpList_load_want rfl 27 _ rfl (w.heap.size+1+1+1) rfl 27 #[.int .u64 (yn:Int),.slice xda xdl xdc,.slice xpa xpl xpc] (0,0) _ r35 Tryz.underlying27 rfl infoV ?_)|(refine wpList_store_row rfl 27 _ _ rfl (w.heap.size+1+1) #[.int .u64 (yn:Int),.slice xda xdl xdc,.slice xpa xpl xpc] rfl rfl 27 _ r25 infoV rfl hone ?_)|fail)
  refine bodyPost_ret (results_row_slot Tryz.results17 _ _ (w.heap.size+1+1) _ _ _ _ _ rfl RF.out rfl Tryz.underlying27 rfl infoV) rfl ⟨?_,hwF.out⟩;unfold DcO;rw[hR.out]
  exact⟨⟨yn,xda,xdl,xdc,xpa,xpl,xpc⟩,rfl,hr'.out.wid (fun b hb_=>by omega)⟩
 |some x=>
  obtain⟨q,rfl,hq1,hq2⟩:=hG
  have r35:=keep (hbn (by simp)) r3
  have hone:(#[Value.int .u64 0,nS,nS]:Array Value).all (·.oneCell')=true:=by simp[Value.oneCell']
  have RF:=hide (setRow_heap _ (w.heap.size+1+1) _ #[.int .u64 0,nS,nS] _ _ r25)
  have hwF:=hide (below_setRow (g:=w.heap.size+1+1) hw5 (by omega) #[.int .u64 0,nS,nS])
  have hq3:=hide ((setRow_other w5 (w.heap.size+1+1) q #[.int .u64 0,nS,nS] (by omega)).trans hq2)
  clear hq2 hBt hbn hw5 hb hst
  go_wp2_with (first|(refine wpList_load_want rfl 27 _ rfl (w.heap.size+1+1+1) rfl 27 #[.int .u64 0,nS,nS] (0,0) _ r35 Tryz.underlying27 rfl infoV ?_)|(refine wpList_store_row rfl 27 _ _ rfl (w.heap.size+1+1) #[.int .u64 0,nS,nS] rfl rfl 27 _ r25 infoV rfl hone ?_)|fail)
  refine bodyPost_ret (results_row_slot Tryz.results17 _ _ (w.heap.size+1+1) _ _ _ _ _ rfl RF.out rfl Tryz.underlying27 rfl infoV) rfl ⟨?_,hwF.out⟩;unfold DcO;rw[hR.out]
  exact⟨q,rfl,by omega,hq3.out⟩
def DcT (base:Nat) (F:Option Flt3) (X:VT) (e:Ending) (w':World):Prop:=
 match F with
 |none=>∃x,e=.returned (.tuple #[.agg (vrv x),.nilIface])∧VtM w' (fun b=>base≤b) x X
 |some x=>∃g,e=.returned (.tuple #[.agg #[.int .u64 0,nS,nS],.iface 70 (.pointer (some ⟨g,0,none⟩))])∧base≤g∧w'.heap[g]? =some (.cells (frw x) 41 (0,0))
theorem DcO.t {base:Nat} {F:Option Flt3} {X:VT} {e:Ending} {w':World} (h:DcO base F X e w'):DcT base F X e w':=by
 cases F with
 |none=>obtain⟨x,h1,h2⟩:=h;exact⟨x,h1,h2.1⟩
 |some x=>exact h
end Go.Proofs.YtmmlkfkpblokiaaGreatDoor
