import Derived.Test.YtmmlkfkpblokiaaGreatDoorQdKtm
import Derived.Test.YtmmlkfkpblokiaaGreatDoorQdKyx
import Derived.Test.YtmmlkfkpblokiaaGreatDoorQdKts
import Derived.Test.YtmmlkfkpblokiaaGreatDoorQdKtv
import Derived.ProofKit
import Derived.OpenShut
import Derived.ChangeOld
import Derived.Deep.Slices
import Derived.Test.YtmmlkfkpblokiaaGreatDoorQdKta
import Derived.Test.YtmmlkfkpblokiaaGreatDoorQdXdc
import Derived.Test.YtmmlkfkpblokiaaGreatDoorRows
import Derived.Test.YtmmlkfkpblokiaaGreatDoorProg
import Derived.Lib.LaidU8T
import Derived.Lib.LaidIn
import Derived.Laws.EntriesVeiled
namespace Go.Proofs.YtmmlkfkpblokiaaGreatDoor
set_option maxRecDepth 100000
open Go Go.RowKit Go.Sort
attribute [local go_sem] setCell_drewN alloc_drewN
theorem dec_selfv {X:VT}:(@decide (X=X) (Classical.propDecidable _))=true:=by simp
def valU (F:Option Flt3) (X:VT):VT:=match F with
 |none=>X
 |some _=>.mk 0 [] []
def EvQ (W:World) (base:Nat) (F:Option Flt3) (ev:Value):Prop:=match F with
 |none=>ev=.nilIface
 |some f=>f.why≠0∧∃g,ev=.iface 70 (.pointer (some ⟨g,0,none⟩))∧base≤g∧W.heap[g]? =some (.cells (frw f) 41 (0,0))
theorem EvQ.keep {W V:World} {base:Nat} {F:Option Flt3} {ev:Value} (h:EvQ W base F ev) (hb:Below W.heap.size W V):EvQ V base F ev:=by
 cases F with
 |none=>exact h
 |some f=>obtain⟨h0,g,h1,h2,h3⟩:=h;exact⟨h0,g,h1,h2,Go.Proofs.YtmmlkfkpblokiaaGreatDoor.keep hb h3⟩
theorem vto_zero (W:World) (S:Nat→Prop):VtO W S ⟨0,none,0,0,none,0,0⟩ (.mk 0 [] []):=by
 have hB0:BysB W (.slice none 0 0) ([]:List B):=⟨⟨none,0,rfl,by decide,fun j hj=>by simp[bl] at hj,by simp[bl]⟩,by decide,fun a l c e _=>by cases e;rfl⟩
 exact⟨.mk ⟨0,none,0,0,none,0,0⟩ [] [] [] (by show 0<18446744073709551616;decide) rfl (by decide) hB0 (Nat.le_refl _) (fun a e=>by cases lv_some e) rfl rfl (Nat.le_refl _) (by decide) (fun a e=>by cases lv_some e) (fun i hi=>by simp at hi) (fun i hi=>by simp at hi),1,wip_nil ⟨0,by decide,rfl⟩ 0⟩
theorem a_DecodeU {g:Nat} {ts:List Slt} (d:List B) (b:Value) (w:World) (hT:Lib.Utf8Tabs 2 3 w) (hC:Cdc w g ts) (hB:BysB w b d) (hcap:∀a l c,b=.slice a l c→l≤c):
 Calls Tryz.prog 17 #[.pointer (some ⟨g,0,none⟩),b] w fun e w'=>∃x ev,e=.returned (.tuple #[.agg (vrv x),ev])∧VtO w' (fun b=>w.heap.size≤b) x (valU (deT utD flD ts d 0) (mgT ts d))∧EvQ w' w.heap.size (deT utD flD ts d 0) ev∧Below w.heap.size w w':=by
 refine(a_DecodeO plo8 d b w hT hC hB hcap).mono ?_;rintro e w' ⟨h,hb⟩
 have hw:=fun f (q:deT utD flD ts d 0=some f)=>de_why d 0 f q
 generalize deT utD flD ts d 0=F at *
 cases F with
 |none=>obtain⟨x,rfl,hx⟩:=h;exact⟨x,_,rfl,hx,rfl,hb⟩
 |some f=>obtain⟨q,rfl,h1,h2⟩:=h;exact⟨⟨0,none,0,0,none,0,0⟩,_,rfl,vto_zero _ _,⟨hw f rfl,q,rfl,h1,h2⟩,hb⟩
theorem r_DecodeU {g:Nat} {ts:List Slt} (hv:vld ts=0) (d:List B) (b:Value) (w:World) (hC:Rdc w g ts) (hB:BysB w b d) (hcap:∀a l c,b=.slice a l c→l≤c):
 Calls Tryz.prog 18 #[.pointer (some ⟨g,0,none⟩),b] w fun e w'=>∃x,e=.returned (.tuple #[.agg (vrv x),.agg (flr (deT utD flD ts d 0))])∧VtO w' (fun b=>w.heap.size≤b) x (valU (deT utD flD ts d 0) (mgT ts d))∧Below w.heap.size w w':=by
 refine(r_DecodeT hv d b w hC hB hcap).mono ?_;rintro e w' ⟨h,hb⟩
 generalize deT utD flD ts d 0=F at *
 cases F with
 |none=>obtain⟨x,rfl,hx⟩:=h;exact⟨x,rfl,hx,hb⟩
 |some f=>obtain rfl:=h;exact⟨⟨0,none,0,0,none,0,0⟩,rfl,vto_zero _ _,hb⟩
theorem l_faultyU {F:Option Flt3} {ev:Value} {base:Nat} (w:World) (hE:Ety w) (h:EvQ w base F ev):Calls Tryz.prog 11 #[ev,.agg (flr F)] w fun e w'=>e=.returned (.bool true)∧Below w.heap.size w w':=by
 cases F with
 |none=>obtain rfl:=h;exact l_faulty8_nil 0 0 w
 |some f=>obtain⟨h0,g,rfl,_,h2⟩:=h;exact l_faulty8_hit f h0 g w hE h2
theorem flr_three (F:Option Flt3):∃a b c:Int,flr F=#[.int .i64 a,.int .i64 b,.int .i64 c]:=by
 cases F with
 |none=>exact⟨0,0,0,rfl⟩
 |some f=>exact⟨f.line,f.at_,f.why,rfl⟩
theorem own_mtv (W:World):Own (W.alloc (.cells #[] 5)) W.heap.size (.slice (some ⟨W.heap.size,0,none⟩) 0 0) []:=
 ⟨rfl,.inr ⟨W.heap.size,0,#[],rfl,Nat.le_refl _,hp1_0 W _,Nat.le_refl _,by decide,rfl,rfl⟩⟩
theorem cat_numsv (p q:List Int):strOfNums p++strOfNums q=strOfNums (p++q):=by
 apply ByteArray.ext
 simp[strOfNums]
theorem size_numsv (l:List Int):(strOfNums l).size=l.length:=by
 simp[strOfNums,ByteArray.size]
theorem cat_runv (p q:List Int) (hl:p.length+q.length≤9223372036854775807) (W:World):(binOp .add 9 (.string (strOfNums p)) (.string (strOfNums q))).run Tryz.prog W=.ok (.string (strOfNums (p++q))) W:=by
 have e:¬(((strOfNums p).size+(strOfNums q).size:Nat):Int)>IntKind.i64.max:=by
  rw[size_numsv,size_numsv]
  have:IntKind.i64.max=9223372036854775807:=by decide
  omega
 simp only[Go.binOp,Op.stringOp,if_neg e,Sem.run_pure,cat_numsv]
theorem op_catv {o:Oper} {a:Act} {W:World} (x y:Operand) (ho:o.op=.binOp .add 9 x y 9) (A B C:ByteArray) (hx:a.eval x=.string A) (hy:a.eval y=.string B) (h:(binOp .add 9 (.string A) (.string B)).run Tryz.prog W=.ok (.string C) W):(execOp a.eval o).run Tryz.prog W=.ok (.value (.string C)) W:=by
 unfold execOp;simp only[ho,hx,hy,Sem.run_bind,Sem.run_pure]
 first
  |(rw[show Sem.run Tryz.prog (eqGuard BinOp.add 9 x y (.string A) (.string B)) W=.ok () W from rfl,Result.andThen_ok,h,Result.andThen_ok];done)
  |(simp[eqGuard,h,Result.andThen_ok];done)
  |(simp[eqGuard,h])
theorem rdc_keepv {W V:World} {g:Nat} {ts:List Slt} (h:Rdc W g ts) (hb:Below W.heap.size W V):Rdc V g ts:=by
 obtain⟨u,h1,h2⟩:=h;exact⟨u,keep hb h1,h2.keep hb⟩
theorem own_set {W:World} {b0 g n c:Nat} {l:List B} (h:Own W b0 (.slice (some ⟨g,0,none⟩) n c) l) {j:Nat} (_hj:j<l.length) (z:B):Own (W.setCell ⟨g,j,none⟩ (.int .u8 (bv z))) b0 (.slice (some ⟨g,0,none⟩) n c) (l.set j z)∧W.grownBy (W.setCell ⟨g,j,none⟩ (.int .u8 (bv z))) (some g):=by
 refine⟨?_,grown_setCell (World.grownBy.refl _ _)⟩
 obtain⟨h1,⟨e,h0⟩|⟨g2,cap,cur,e,hbg,hg,hn,hm,hs,ht⟩⟩:=h
 ·cases e
 ·injection e with e1 e2 e3
  injection e1 with e1
  injection e1 with e1 _ _
  subst e1;have hq:=heap_setCell_same W g j cur _ (.int .u8 (bv z)) hg;unfold Own;rw[List.length_set]
  refine⟨by simp[bl],.inr ⟨g,cap,_,by rw[e2,e3],hbg,hq,hn,hm,by rw[Array.size_setIfInBounds];exact hs,?_⟩⟩
  rw[Array.toList_setIfInBounds,List.take_set,ht,bl,bl,List.map_set,List.map_set]
theorem bl_atv (d:List B) (j:Nat):(bl d).getD j 0=bv (gb d j):=by
 rw[bl,gb,List.getD_eq_getElem?_getD,List.getD_eq_getElem?_getD,List.getElem?_map]
 cases d[j]? <;>rfl
theorem EvQ.other {W:World} {base:Nat} {F:Option Flt3} {ev:Value} (h:EvQ W base F ev) (g:Nat) (cs:Array Value) (hg:g<base):EvQ (W.setRow g cs) base F ev:=by
 cases F with
 |none=>exact h
 |some f=>obtain⟨h0,q,h1,h2,h3⟩:=h;exact⟨h0,q,h1,h2,(setRow_other W g q cs (by omega)).trans h3⟩
set_option maxRecDepth 100000 in
set_option maxHeartbeats 16000000 in
theorem decodes_any {v b:Value} {ts:List Slt} {d:List B} (W:World) (hE:Ety W) (hT:Lib.Utf8Tabs 2 3 W) (hS:Slo W v ts) (hB0:BysC W b d):Calls Tryz.prog 5 #[v,b] W fun e W'=>e=.returned (.bool true)∧Below W.heap.size W W':=by
 obtain⟨ao,cap,rfl⟩:=hS.form;obtain⟨bo,bc,rfl⟩:=hB0.1.form;have hdl:=hB0.2.1;have hBb:=hB0.1;have hcap:∀a l c,Value.slice bo d.length bc=.slice a l c→l≤c:=hB0.2.2;clear hB0;replace hcap:=hide hcap;have hb:=Below.refl W.heap.size W
 go_enter Tryz.func5,Tryz.ntmps5
 go_wp2_with (fail)
 have cBs:=l_bigSlots hS;obtain⟨bs,hbs⟩:∃bs,decide (slL ts 10000<0)=bs:=⟨_,rfl⟩;rw[hbs] at cBs;refine(cBs).mono ?_;rintro e_ w1 ⟨rfl,hb1⟩;replace hE:=hE.keep hb1 rfl;replace hT:=Utf8Tabs_below hT hb1;replace hBb:=hBb.keep hb1;replace hS:=hS.keep hb1;replace hb:=Below.after hb hb1;clear hb1;clear cBs
 cases bs
 rotate_left
 ·go_wp2_with (fail)
  go_ret
  exact⟨rfl,hb⟩
 have hbig:0≤slL ts 10000:=by simpa using hbs
 clear hbs;replace hbig:=hide hbig
 go_wp2_with (fail)
 refine(l_made hS hbig.out w1 (Below.refl _ _)).mono ?_;rintro e_ w2 ⟨hbm,hor⟩;replace hE:=hE.keep hbm rfl;replace hT:=Utf8Tabs_below hT hbm;replace hBb:=hBb.keep hbm;replace hS:=hS.keep hbm;replace hb:=Below.after hb hbm;clear hbm
 rcases hor with⟨hz,gc,gr,u,rfl,hC,hgr,hU⟩|⟨hz,rfl⟩
 rotate_left
 ·clear hz
  go_wp2_with (fail)
  go_ret;exact⟨rfl,hb⟩
 have hR:Rdc w2 gr ts:=⟨u,hgr,hU⟩;clear hgr hU hS hbig;have ok:=vld_ok hz;replace hz:=hide hz;replace ok:=hide ok;have K0_hE:=hide hE;have K0_hT:=hide hT;have K0_hBb:=hide hBb;have K0_hb:=hide hb;have K0_hC:=hide hC;have K0_hR:=hide hR;have hA0:=Below.refl w2.heap.size w2;have hba:=(Below.refl w2.heap.size w2).alloc (Nat.le_refl _) (.cells #[] 5);have hO0:=own_mtv w2
 have hbase:w2.heap.size≤(w2.alloc (.cells #[] 5)).heap.size:=by simp
 have hB8:=hBb.keep hba
 have hlen1:([]:List B).length+d.length≤140737488355328:=by simp;omega
 replace hlen1:=hide hlen1;replace hE:=hide hE;replace hT:=hide hT;replace hBb:=hide hBb;replace hb:=hide hb;replace hC:=hide hC;replace hR:=hide hR;replace hA0:=hide hA0
 go_wp2_with (first|(at_builtin;refine wpList_append_B rfl _ _ rfl w2.heap.size (.slice (some ⟨w2.heap.size,0,none⟩) 0 0) [] rfl hO0 (.slice bo d.length bc) d rfl hB8 hlen1.out hbase ?_)|fail)
 intro v1 x1 hO1 hg1
 have hbx1:=Below.grown hba hg1 hbase (fun k e=>by cases e;exact Nat.le_refl _)
 obtain⟨o1,c1,rfl⟩:=slen_own hO1;have hb3:=(Below.refl x1.heap.size x1).alloc (Nat.le_refl _) (.cells #[.int .u8 1,.int .u8 2,.int .u8 3] 5);have hO1':=hO1.keep hb3
 have hU3:BysB (x1.alloc (.cells #[.int .u8 1,.int .u8 2,.int .u8 3] 5)) (.slice (some ⟨x1.heap.size,0,none⟩) 3 3) [1#8,2#8,3#8]:=(own_of_row (b:=0) (d:=[1#8,2#8,3#8]) (T:=[]) (hp1_0 x1 _) (Nat.zero_le _) (by decide)).bysB (by decide)
 have hlen2:d.length+([1#8,2#8,3#8]:List B).length≤140737488355328:=by simp;omega
 have hbase2:w2.heap.size≤(x1.alloc (.cells #[.int .u8 1,.int .u8 2,.int .u8 3] 5)).heap.size:=Nat.le_trans hbx1.size hb3.size;replace hlen2:=hide hlen2;clear hba hO0 hbase hB8 hg1 hlen1
 go_wp2_with (first|(at_builtin;refine wpList_append_B rfl _ _ rfl w2.heap.size (.slice o1 d.length c1) d rfl hO1' (.slice (some ⟨x1.heap.size,0,none⟩) 3 3) [1#8,2#8,3#8] rfl hU3 hlen2.out hbase2 ?_)|fail)
 intro v2 x2 hO2 hg2
 have hbx2:Below w2.heap.size w2 x2:=(Below.after hbx1 hb3).grown hg2 hbase2 (fun k e=>(own_high_row hO1 k e).1)
 obtain⟨LI,hLI⟩:∃LI,d++[1#8,2#8,3#8]=LI:=⟨_,rfl⟩
 have hLn:LI.length=d.length+3:=by rw[←hLI,List.length_append];rfl
 rw[hLI] at hO2;obtain⟨ob,oc,rfl⟩:=slen_own hO2;have hcp:=own_capT hO2;replace hLI:=hide hLI;clear hO1 hO1' hb3 hg2 hU3 hbase2 hlen2 hbx1;replace hE:=hE.out;replace hT:=hT.out;replace hBb:=hBb.out;replace hb:=hb.out;replace hC:=hC.out;replace hR:=hR.out;replace hA0:=hA0.out;replace hE:=hE.keep hbx2 rfl;replace hT:=Utf8Tabs_below hT hbx2;replace hBb:=hBb.keep hbx2;replace hb:=Below.after hb hbx2;replace hC:=hC.keep hbx2;replace hR:=rdc_keepv hR hbx2;replace hA0:=Below.after hA0 hbx2;clear hbx2
 obtain⟨gi,icur,rfl,hgi,hic,_⟩:=own_rowT (own_down_row hO2 (Nat.zero_le _)) (show 0<LI.length by omega)
 have hi0:=own_high_row hO2 gi rfl
 have hLt:LI.take d.length=d:=by rw[←hLI.out,List.take_left' rfl]
 have hIB:=bysB_take8 (hO2.bysB (by omega)) (show d.length≤LI.length by omega)
 rw[hLt] at hIB
 have hcd:d.length≤oc:=by omega
 have hLb:LI.length≤140737488355000:=by omega
 have hL3:d.length≤LI.length:=by omega
 replace hLn:=hide hLn;clear hgi hic hLt;obtain⟨F,hF⟩:∃F,deT utD flD ts d 0=F:=⟨_,rfl⟩;obtain⟨M,hM⟩:∃M,mgT ts d=M:=⟨_,rfl⟩
 have cD:=a_DecodeU d _ x2 hT hC hIB (fun a l c e=>by cases e;omega)
 rw[hF,hM] at cD
 generalize hXU:valU F M=XU at *
 have hFM:=hide hF;have hMM:=hide hM;clear hF hM;have K_hE:=hide hE;have K_hT:=hide hT;have K_hBb:=hide hBb;have K_hb:=hide hb;have K_hC:=hide hC;have K_hR:=hide hR;have K_hA0:=hide hA0;have K_hO2:=hide hO2;have hBx:=Below.refl x2.heap.size x2;have hi1:=hi0.2
 go_wp2_with (fail)
 refine(cD).mono ?_;rintro e_ w3 ⟨⟨an,ada,adl,adc,apa,apl,apc⟩,ev1,rfl,hVa,hEa,hb3⟩;replace hE:=hE.keep hb3 rfl;replace hT:=Utf8Tabs_below hT hb3;replace hBb:=hBb.keep hb3;replace hb:=Below.after hb hb3;replace hC:=hC.keep hb3;replace hR:=rdc_keepv hR hb3;replace hA0:=Below.after hA0 hb3;replace hO2:=hO2.keep hb3;replace hBx:=Below.after hBx hb3;replace hIB:=hIB.keep hb3;clear hb3;clear cD;unfold vrv vrw;dsimp only;replace hVa:=vtm_upto hVa;have hsB:x2.heap.size≤w3.heap.size:=hBx.size;have hba:=(Below.refl w3.heap.size w3).alloc (Nat.le_refl _) (.cells #[.int .u64 (an:Int),.slice ada adl adc,.slice apa apl apc] 27);have rA:=hp1_0 w3 (.cells #[.int .u64 (an:Int),.slice ada adl adc,.slice apa apl apc] 27);replace hE:=hE.keep hba rfl;replace hT:=Utf8Tabs_below hT hba;replace hBb:=hBb.keep hba;replace hb:=Below.after hb hba;replace hC:=hC.keep hba;replace hR:=rdc_keepv hR hba;replace hA0:=Below.after hA0 hba;replace hO2:=hO2.keep hba;replace hBx:=Below.after hBx hba;replace hIB:=hIB.keep hba;replace hVa:=hVa.blw hba;replace hEa:=hEa.keep hba;clear hba
 go_upto_region 8 with(fail)
 generalize w3.alloc (.cells #[.int .u64 (an:Int),.slice ada adl adc,.slice apa apl apc] 27)=w20 at *
 generalize w3.heap.size=gA at *
 have lA:=lt_of_row rA
 have cD:=a_DecodeU d _ w20 hT hC hIB (fun a l c e=>by cases e;omega)
 rw[hFM.out,hMM.out,hXU] at cD
 go_wp2_with (fail)
 refine(cD).mono ?_;rintro e_ w21 ⟨⟨bn,bda,bdl,bdc,bpa,bpl,bpc⟩,ev2,rfl,hVb,hEb,hb21⟩;replace hE:=hE.keep hb21 rfl;replace hT:=Utf8Tabs_below hT hb21;replace hBb:=hBb.keep hb21;replace hb:=Below.after hb hb21;replace hC:=hC.keep hb21;replace hR:=rdc_keepv hR hb21;replace hA0:=Below.after hA0 hb21;replace hO2:=hO2.keep hb21;replace hBx:=Below.after hBx hb21;replace hIB:=hIB.keep hb21;replace hVa:=hVa.blw hb21;replace hEa:=hEa.keep hb21;replace rA:=keep hb21 rA;clear hb21;clear cD;unfold vrv vrw;dsimp only
 replace hVb:=(vtm_upto hVb).wid (T:=fun q=>gA<q∧q<w21.heap.size) (fun q hq=>⟨by omega,hq.2⟩)
 have hba:=(Below.refl w21.heap.size w21).alloc (Nat.le_refl _) (.cells #[.int .u64 (bn:Int),.slice bda bdl bdc,.slice bpa bpl bpc] 27);have rB:=hp1_0 w21 (.cells #[.int .u64 (bn:Int),.slice bda bdl bdc,.slice bpa bpl bpc] 27);have lAC:=lt_of_row rA;replace hE:=hE.keep hba rfl;replace hT:=Utf8Tabs_below hT hba;replace hBb:=hBb.keep hba;replace hb:=Below.after hb hba;replace hC:=hC.keep hba;replace hR:=rdc_keepv hR hba;replace hA0:=Below.after hA0 hba;replace hO2:=hO2.keep hba;replace hBx:=Below.after hBx hba;replace hIB:=hIB.keep hba;replace hVa:=hVa.blw hba;replace hEa:=hEa.keep hba;replace rA:=keep hba rA;replace hVb:=hVb.blw hba;replace hEb:=hEb.keep hba;clear hba
 go_upto_region 9 with(fail)
 generalize w21.alloc (.cells #[.int .u64 (bn:Int),.slice bda bdl bdc,.slice bpa bpl bpc] 27)=w30 at *
 generalize w21.heap.size=gB at *
 have cR:=r_DecodeU hz.out d _ w30 hR hBb hcap.out;obtain⟨fl,fa,fw,hfl⟩:=flr_three F;rw[hFM.out,hMM.out,hXU,hfl] at cR;have lB:=lt_of_row rB
 go_wp2_with (fail)
 refine(cR).mono ?_;rintro e_ w31 ⟨⟨cn,cda,cdl,cdc,cpa,cpl,cpc⟩,rfl,hVc,hb31⟩;replace hE:=hE.keep hb31 rfl;replace hT:=Utf8Tabs_below hT hb31;replace hBb:=hBb.keep hb31;replace hb:=Below.after hb hb31;replace hC:=hC.keep hb31;replace hR:=rdc_keepv hR hb31;replace hA0:=Below.after hA0 hb31;replace hO2:=hO2.keep hb31;replace hBx:=Below.after hBx hb31;replace hIB:=hIB.keep hb31;replace hVa:=hVa.blw hb31;replace hEa:=hEa.keep hb31;replace rA:=keep hb31 rA;replace hVb:=hVb.blw hb31;replace hEb:=hEb.keep hb31;replace rB:=keep hb31 rB;clear hb31;clear cR;unfold vrv vrw;dsimp only
 replace hVc:=(vtm_upto hVc).wid (T:=fun q=>gA<q∧q<w31.heap.size) (fun q hq=>⟨by omega,hq.2⟩)
 have hba:Below w31.heap.size w31 ((w31.alloc (.cells #[.int .u64 (cn:Int),.slice cda cdl cdc,.slice cpa cpl cpc] 27)).alloc (.cells #[.int .i64 fl,.int .i64 fa,.int .i64 fw] 41)):=((Below.refl _ _).alloc (Nat.le_refl _) _).alloc (by simp) _
 have rC:=hp2_0 w31 (.cells #[.int .u64 (cn:Int),.slice cda cdl cdc,.slice cpa cpl cpc] 27) (.cells #[.int .i64 fl,.int .i64 fa,.int .i64 fw] 41);have rQ:=hp2_1 w31 (.cells #[.int .u64 (cn:Int),.slice cda cdl cdc,.slice cpa cpl cpc] 27) (.cells #[.int .i64 fl,.int .i64 fa,.int .i64 fw] 41);have lBD:=lt_of_row rB;replace hE:=hE.keep hba rfl;replace hT:=Utf8Tabs_below hT hba;replace hBb:=hBb.keep hba;replace hb:=Below.after hb hba;replace hC:=hC.keep hba;replace hR:=rdc_keepv hR hba;replace hA0:=Below.after hA0 hba;replace hO2:=hO2.keep hba;replace hBx:=Below.after hBx hba;replace hIB:=hIB.keep hba;replace hVa:=hVa.blw hba;replace hEa:=hEa.keep hba;replace rA:=keep hba rA;replace hVb:=hVb.blw hba;replace hEb:=hEb.keep hba;replace rB:=keep hba rB;replace hVc:=hVc.blw hba;clear hba
 go_upto_region 10 with(fail)
 generalize (w31.alloc (.cells #[.int .u64 (cn:Int),.slice cda cdl cdc,.slice cpa cpl cpc] 27)).alloc (.cells #[.int .i64 fl,.int .i64 fa,.int .i64 fw] 41)=w40 at *
 generalize w31.heap.size=gC at *
 have kc:∀V:World,(binOp .add 9 (.string (strOfNums (bl d))) (.string ⟨#[1,2,3]⟩)).run Tryz.prog V=.ok (.string (strOfNums (bl LI))) V:=fun V=>by
  have h:=cat_runv (bl d) [1,2,3] (by rw[bl_len];simp;omega) V
  have e:bl d++[1,2,3]=bl LI:=by rw[←hLI.out];simp[bl,bv]
  rw[e] at h;exact h
 replace kc:=hide kc;have cQ:=l_faultyU w40 hE hEa;rw[hfl] at cQ
 go_wp2_with (first|(refine wpList_load_want rfl 41 _ rfl (gC+1) rfl 41 #[.int .i64 fl,.int .i64 fa,.int .i64 fw] (0,0) _ rQ Tryz.underlying41 rfl infoFt ?_)|fail)
 refine(cQ).mono ?_;rintro e_ w41 ⟨rfl,hb41⟩;replace hE:=hE.keep hb41 rfl;replace hT:=Utf8Tabs_below hT hb41;replace hBb:=hBb.keep hb41;replace hb:=Below.after hb hb41;replace hC:=hC.keep hb41;replace hR:=rdc_keepv hR hb41;replace hA0:=Below.after hA0 hb41;replace hO2:=hO2.keep hb41;replace hBx:=Below.after hBx hb41;replace hIB:=hIB.keep hb41;replace hVa:=hVa.blw hb41;replace hEa:=hEa.keep hb41;replace rA:=keep hb41 rA;replace hVb:=hVb.blw hb41;replace hEb:=hEb.keep hb41;replace rB:=keep hb41 rB;replace hVc:=hVc.blw hb41;replace rC:=keep hb41 rC;replace rQ:=keep hb41 rQ;clear hb41;clear cQ;have cQ:=l_faultyU w41 hE hEb;rw[hfl] at cQ
 go_wp2_with (first|(refine wpList_load_want rfl 41 _ rfl (gC+1) rfl 41 #[.int .i64 fl,.int .i64 fa,.int .i64 fw] (0,0) _ rQ Tryz.underlying41 rfl infoFt ?_)|fail)
 refine(cQ).mono ?_;rintro e_ w42 ⟨rfl,hb42⟩;replace hE:=hE.keep hb42 rfl;replace hT:=Utf8Tabs_below hT hb42;replace hBb:=hBb.keep hb42;replace hb:=Below.after hb hb42;replace hC:=hC.keep hb42;replace hR:=rdc_keepv hR hb42;replace hA0:=Below.after hA0 hb42;replace hO2:=hO2.keep hb42;replace hBx:=Below.after hBx hb42;replace hIB:=hIB.keep hb42;replace hVa:=hVa.blw hb42;replace hEa:=hEa.keep hb42;replace rA:=keep hb42 rA;replace hVb:=hVb.blw hb42;replace hEb:=hEb.keep hb42;replace rB:=keep hb42 rB;replace hVc:=hVc.blw hb42;replace rC:=keep hb42 rC;replace rQ:=keep hb42 rQ;clear hb42;clear cQ;have cS:=a_same hVa.1 _ _ _ w42 (Below.refl _ _) hVc.1;rw[dec_selfv] at cS;unfold vrv vrw at cS;dsimp only at cS
 go_wp2_with (first|(refine wpList_load_want rfl 27 _ rfl (gA) rfl 27 #[.int .u64 (an:Int),.slice ada adl adc,.slice apa apl apc] (0,0) _ rA Tryz.underlying27 rfl infoV ?_)|(refine wpList_load_want rfl 27 _ rfl (gC) rfl 27 #[.int .u64 (cn:Int),.slice cda cdl cdc,.slice cpa cpl cpc] (0,0) _ rC Tryz.underlying27 rfl infoV ?_)|fail)
 refine(cS).mono ?_;rintro e_ w43 ⟨rfl,hb43⟩;replace hE:=hE.keep hb43 rfl;replace hT:=Utf8Tabs_below hT hb43;replace hBb:=hBb.keep hb43;replace hb:=Below.after hb hb43;replace hC:=hC.keep hb43;replace hR:=rdc_keepv hR hb43;replace hA0:=Below.after hA0 hb43;replace hO2:=hO2.keep hb43;replace hBx:=Below.after hBx hb43;replace hIB:=hIB.keep hb43;replace hVa:=hVa.blw hb43;replace hEa:=hEa.keep hb43;replace rA:=keep hb43 rA;replace hVb:=hVb.blw hb43;replace hEb:=hEb.keep hb43;replace rB:=keep hb43 rB;replace hVc:=hVc.blw hb43;replace rC:=keep hb43 rC;replace rQ:=keep hb43 rQ;clear hb43;clear cS;have cS:=a_same hVb.1 _ _ _ w43 (Below.refl _ _) hVc.1;rw[dec_selfv] at cS;unfold vrv vrw at cS;dsimp only at cS
 go_wp2_with (first|(refine wpList_load_want rfl 27 _ rfl (gB) rfl 27 #[.int .u64 (bn:Int),.slice bda bdl bdc,.slice bpa bpl bpc] (0,0) _ rB Tryz.underlying27 rfl infoV ?_)|(refine wpList_load_want rfl 27 _ rfl (gC) rfl 27 #[.int .u64 (cn:Int),.slice cda cdl cdc,.slice cpa cpl cpc] (0,0) _ rC Tryz.underlying27 rfl infoV ?_)|fail)
 refine(cS).mono ?_;rintro e_ w44 ⟨rfl,hb44⟩;replace hE:=hE.keep hb44 rfl;replace hT:=Utf8Tabs_below hT hb44;replace hBb:=hBb.keep hb44;replace hb:=Below.after hb hb44;replace hC:=hC.keep hb44;replace hR:=rdc_keepv hR hb44;replace hA0:=Below.after hA0 hb44;replace hO2:=hO2.keep hb44;replace hBx:=Below.after hBx hb44;replace hIB:=hIB.keep hb44;replace hVa:=hVa.blw hb44;replace hEa:=hEa.keep hb44;replace rA:=keep hb44 rA;replace hVb:=hVb.blw hb44;replace hEb:=hEb.keep hb44;replace rB:=keep hb44 rB;replace hVc:=hVc.blw hb44;replace rC:=keep hb44 rC;replace rQ:=keep hb44 rQ;clear hb44;clear cS;have kI:=conv_byT (hO2.bysB hLb).1;have kB:=conv_byT hBb.1
 go_upto_region 12 with(first|(refine wpList_val8 rfl (.string (strOfNums (bl LI))) (op_catv _ _ rfl (strOfNums (bl d)) ⟨#[1,2,3]⟩ (strOfNums (bl LI)) rfl rfl (kc.out _)) ?_)|fail)
 clear kI kB;obtain⟨nW,hWp⟩:=hVa.2;have cW:=l_wipe8 nW _ _ w44 hWp;unfold vrv vrw at cW;dsimp only at cW;clear hWp
 go_wp2_with (first|(refine wpList_load_want rfl 27 _ rfl (gA) rfl 27 #[.int .u64 (an:Int),.slice ada adl adc,.slice apa apl apc] (0,0) _ rA Tryz.underlying27 rfl infoV ?_)|fail)
 refine cW.mono ?_;rintro e_ w60 ⟨⟨u0,rfl⟩,hk⟩
 have hx:Below x2.heap.size x2 w60:=hBx.trans (hk.low (fun q hq=>hq.1) hBx.size)
 have hSt:∀q,gA≤q→q<w44.heap.size→w60.heap[q]? =w44.heap[q]? :=fun q h1 h2=>hk.out q h2 (fun h=>by omega)
 have hsy:∀S:Nat→Prop,(∀q,S q→gA<q)→Sty w44 w60 S S:=fun S hS=>⟨hk.size,fun q h1 h2=>⟨hSt q (Nat.le_of_lt (hS q h2)) h1,h2⟩⟩
 have l1:=lt_of_row rA;have l2:=lt_of_row rB;have l3:=lt_of_row rC;have l4:=lt_of_row rQ;replace hE:=K_hE.out.keep hx rfl;replace hT:=Utf8Tabs_below K_hT.out hx;replace hBb:=K_hBb.out.keep hx;replace hb:=Below.after K_hb.out hx;replace hA0:=Below.after K_hA0.out hx;replace hC:=K_hC.out.keep hx;replace hR:=rdc_keepv K_hR.out hx;replace hO2:=K_hO2.out.keep hx
 replace hVb:=hVb.keep (hsy _ (fun q hq=>hq.1))
 replace hVc:=hVc.keep (hsy _ (fun q hq=>hq.1))
 replace rA:=(hSt gA (Nat.le_refl _) l1).trans rA
 replace rB:=(hSt gB (by omega) l2).trans rB
 replace rC:=(hSt gC (by omega) l3).trans rC
 replace rQ:=(hSt (gC+1) (by omega) l4).trans rQ
 clear cW hVa hEa hEb hIB hBx hx hSt hsy hk K_hE K_hT K_hBb K_hC K_hR K_hO2 K_hb K_hA0;have cS:=a_same hVb.1 _ _ _ w60 (Below.refl _ _) hVc.1;rw[dec_selfv] at cS;unfold vrv vrw at cS;dsimp only at cS
 go_wp2_with (first|(refine wpList_load_want rfl 27 _ rfl (gB) rfl 27 #[.int .u64 (bn:Int),.slice bda bdl bdc,.slice bpa bpl bpc] (0,0) _ rB Tryz.underlying27 rfl infoV ?_)|(refine wpList_load_want rfl 27 _ rfl (gC) rfl 27 #[.int .u64 (cn:Int),.slice cda cdl cdc,.slice cpa cpl cpc] (0,0) _ rC Tryz.underlying27 rfl infoV ?_)|fail)
 refine(cS).mono ?_;rintro e_ w61 ⟨rfl,hb61⟩;replace hE:=hE.keep hb61 rfl;replace hT:=Utf8Tabs_below hT hb61;replace hBb:=hBb.keep hb61;replace hb:=Below.after hb hb61;replace hC:=hC.keep hb61;replace hR:=rdc_keepv hR hb61;replace hA0:=Below.after hA0 hb61;replace hO2:=hO2.keep hb61;replace rA:=keep hb61 rA;replace hVb:=hVb.blw hb61;replace rB:=keep hb61 rB;replace hVc:=hVc.blw hb61;replace rC:=keep hb61 rC;replace rQ:=keep hb61 rQ;clear hb61;clear cS;have kI:=conv_byT (hO2.bysB hLb).1;have kB:=conv_byT hBb.1
 go_upto_region 15 with(first|(refine wpList_val8 rfl (.string (strOfNums (bl LI))) (op_catv _ _ rfl (strOfNums (bl d)) ⟨#[1,2,3]⟩ (strOfNums (bl LI)) rfl rfl (kc.out _)) ?_)|fail)
 clear kI kB kc;have hszX:=hA0.size
 go_wp2_with (fail)
 go_loopw [15] (fun i wr=>∃(m:Nat) (l:List B),m≤d.length∧i=.int .i64 m∧l.length=LI.length∧Own wr w2.heap.size (.slice (some ⟨gi,0,none⟩) LI.length oc) l∧w61.heap.size≤wr.heap.size∧(∀q,q<w61.heap.size→q≠gi→wr.heap[q]? =w61.heap[q]?)∧w61.grownBy wr (some gi)) (fun i _=>d.length-(intOf i).toNat)
 case atStart=>exact⟨0,LI,by omega,rfl,rfl,hO2,Nat.le_refl _,fun _ _ _=>rfl,World.grownBy.refl _ _⟩
 case round=>
  obtain⟨m,l,hm,rfl,hll,hOl,hsz,hkp,hgr⟩:=hrel
  have hA1:Below w2.heap.size w2 wr:=hA0.grown hgr hszX (fun q e=>by cases e;exact hi0.1)
  by_cases hlt:m<d.length
  ·have hd:decide ((m:Int)<(d.length:Int))=true:=by simp;omega
   have hBW:=K0_hBb.out.keep hA1
   obtain⟨⟨ao_,cp_,e_1,hl_,hc_,hz_⟩,_⟩:=hBW
   injection e_1 with e1 e2 e3
   subst e1;clear e2 e3
   obtain⟨bb,of2,rfl,hbs,hcb⟩:=hc_ (d.length-1-m) (by rw[bl_len];omega)
   have hcb2:wr.cell? ⟨bb,of2+(d.length-1-m),none⟩=some (.int .u8 (bv (gb d (d.length-1-m)))):=by
    rw[hcb,bl_atv]
   obtain⟨_,cur,e0,hg,hcs,hlc⟩:=own_rowT (own_down_row hOl (Nat.zero_le _)) (show 0<LI.length by omega)
   cases e0
   obtain⟨z,hcell⟩:∃z,wr.cell? ⟨gi,m,none⟩=some z:=by
    rw[cell_of_row _ _ _ _ _ _ hg]
    exact⟨_,Array.getElem?_eq_getElem (by omega)⟩
   have hfz:wr.frozen? ⟨gi,m,none⟩=false:=by simp[World.frozen?,hg]
   have hs2:=own_set hOl (j:=m) (by omega) (gb d (d.length-1-m))
   have hjd:d.length-1-m<d.length:=by omega
   have hi8:0≤(d.length:Int)-1-(m:Int)∧(d.length:Int)-1-(m:Int)<(d.length:Int):=by omega
   generalize gb d (d.length-1-m)=zb at *
   have hi9:0≤(m:Int)∧(m:Int)<(LI.length:Int):=by omega
   clear hcb hc_ hz_ hOl hg K0_hBb;replace hs2:=hide hs2
   go_wp2_with (fail)
   refine⟨⟨m+1,l.set m zb,by omega,by go_num,by rw[List.length_set];exact hll,hs2.out.1,Nat.le_trans hsz hs2.out.2.size,fun q h1 h2=>(hs2.out.2.block q (by omega) (fun e=>h2 (by cases e;rfl))).trans (hkp q h1 h2),hgr.trans hs2.out.2⟩,?_⟩
   simp[intOf];omega
  ·have hd:decide ((m:Int)<(d.length:Int))=false:=by simp;omega
   obtain rfl:m=d.length:=by omega
   have l1:=lt_of_row rA;have l2:=lt_of_row rB;have l3:=lt_of_row rC;have l4:=lt_of_row rQ;replace hE:=K0_hE.out.keep hA1 rfl;replace hT:=Utf8Tabs_below K0_hT.out hA1;replace hBb:=K0_hBb.out.keep hA1;replace hb:=Below.after K0_hb.out hA1;replace hC:=K0_hC.out.keep hA1;replace hR:=rdc_keepv K0_hR.out hA1
   have hsy:∀S:Nat→Prop,(∀q,S q→gA<q)→Sty w61 wr S S:=fun S hS=>⟨hsz,fun q h1 h2=>⟨hkp q h1 (by have:=hS q h2;omega),h2⟩⟩
   replace hVb:=hVb.keep (hsy _ (fun q hq=>hq.1))
   replace hVc:=hVc.keep (hsy _ (fun q hq=>hq.1))
   replace rA:=(hkp gA l1 (by omega)).trans rA
   replace rB:=(hkp gB l2 (by omega)).trans rB
   replace rC:=(hkp gC l3 (by omega)).trans rC
   replace rQ:=(hkp (gC+1) l4 (by omega)).trans rQ
   obtain⟨DN,hDN⟩:∃DN,l.take d.length=DN:=⟨_,rfl⟩
   have hDl:DN.length=d.length:=by rw[←hDN,List.length_take];omega
   have hlb:l.length≤140737488355000:=by omega
   have hIB:=bysB_take8 (hOl.bysB hlb) (show d.length≤l.length by omega)
   rw[hDN] at hIB
   have hD0:DN.length≤140737488355000:=by omega
   have hD1:([]:List B).length+DN.length≤140737488355328:=by simp;omega
   replace hDl:=hide hDl;replace hDN:=hide hDN;replace hD1:=hide hD1;obtain⟨F2,hF2⟩:∃F2,deT utD flD ts DN 0=F2:=⟨_,rfl⟩;obtain⟨M2,hM2⟩:∃M2,mgT ts DN=M2:=⟨_,rfl⟩
   generalize hXU2:valU F2 M2=XU2 at *
   replace hF2:=hide hF2;replace hM2:=hide hM2
   have cD:=a_DecodeU DN _ wr hT hC hIB (fun a l c e=>by cases e;omega)
   rw[hF2.out,hM2.out,hXU2] at cD;replace hll:=hide hll;clear hsy hkp hgr hO2
   go_wp2_with (fail)
   refine(cD).mono ?_;rintro e_ w71 ⟨⟨nn,nda,ndl,ndc,npa,npl,npc⟩,ev3,rfl,hVn,hEn,hb71⟩;replace hE:=hE.keep hb71 rfl;replace hT:=Utf8Tabs_below hT hb71;replace hBb:=hBb.keep hb71;replace hb:=Below.after hb hb71;replace hC:=hC.keep hb71;replace hR:=rdc_keepv hR hb71;replace hA1:=Below.after hA1 hb71;replace hVb:=hVb.blw hb71;replace hVc:=hVc.blw hb71;replace rA:=keep hb71 rA;replace rB:=keep hb71 rB;replace rC:=keep hb71 rC;replace rQ:=keep hb71 rQ;replace hIB:=hIB.keep hb71;replace hOl:=hOl.keep hb71;clear hb71;clear cD;unfold vrv vrw;dsimp only;have szr:=hsz
   replace hVn:=hVn.wid (T:=fun q=>gC+1<q) (fun q hq=>by omega)
   have oneN:(#[Value.int .u64 (nn:Int),.slice nda ndl ndc,.slice npa npl npc]:Array Value).all (·.oneCell')=true:=by simp[Value.oneCell']
   go_upto_region 20 with(first|(refine wpList_store_row rfl 27 _ _ rfl gA #[.int .u64 (nn:Int),.slice nda ndl ndc,.slice npa npl npc] rfl rfl 27 _ rA infoV rfl oneN ?_)|fail)
   replace hVb:=hVb.other gA #[.int .u64 (nn:Int),.slice nda ndl ndc,.slice npa npl npc] (T:=fun q=>gA<q∧q<gB) (fun q hq=>⟨by omega,hq⟩)
   replace hVc:=hVc.other gA #[.int .u64 (nn:Int),.slice nda ndl ndc,.slice npa npl npc] (T:=fun q=>gA<q∧q<gC) (fun q hq=>⟨by omega,hq⟩)
   replace hVn:=hVn.other gA #[.int .u64 (nn:Int),.slice nda ndl ndc,.slice npa npl npc] (T:=fun q=>gC+1<q) (fun q hq=>⟨by omega,hq⟩)
   replace hEn:=hEn.other gA #[.int .u64 (nn:Int),.slice nda ndl ndc,.slice npa npl npc] (by omega)
   replace rB:=(setRow_other w71 gA gB #[.int .u64 (nn:Int),.slice nda ndl ndc,.slice npa npl npc] (by omega)).trans rB
   replace rC:=(setRow_other w71 gA gC #[.int .u64 (nn:Int),.slice nda ndl ndc,.slice npa npl npc] (by omega)).trans rC
   replace rQ:=(setRow_other w71 gA (gC+1) #[.int .u64 (nn:Int),.slice nda ndl ndc,.slice npa npl npc] (by omega)).trans rQ
   replace rA:=setRow_heap w71 gA _ #[.int .u64 (nn:Int),.slice nda ndl ndc,.slice npa npl npc] _ _ rA
   replace hA1:=below_setRow hA1 (show w2.heap.size≤gA by omega) #[.int .u64 (nn:Int),.slice nda ndl ndc,.slice npa npl npc]
   replace hE:=K0_hE.out.keep hA1 rfl;replace hT:=Utf8Tabs_below K0_hT.out hA1;replace hBb:=K0_hBb.out.keep hA1;replace hb:=Below.after K0_hb.out hA1;replace hC:=K0_hC.out.keep hA1;replace hR:=rdc_keepv K0_hR.out hA1
   replace hOl:Own (w71.setRow gA #[.int .u64 (nn:Int),.slice nda ndl ndc,.slice npa npl npc]) w2.heap.size (.slice (some ⟨gi,0,none⟩) LI.length oc) l:=own_butR hOl (fun q h=>setRow_other w71 gA q #[.int .u64 (nn:Int),.slice nda ndl ndc,.slice npa npl npc] (by
    have h2:some gi=some q:=h
    injection h2
    omega))
   replace hIB:=bysB_take8 (hOl.bysB hlb) (show d.length≤l.length by have:=hll.out;omega)
   rw[hDN.out] at hIB
   generalize w71.setRow gA #[.int .u64 (nn:Int),.slice nda ndl ndc,.slice npa npl npc]=w71 at *
   have hba:=(Below.refl w71.heap.size w71).alloc (Nat.le_refl _) (.cells #[] 5);have hO0:=own_mtv w71
   have hbase:w71.heap.size≤(w71.alloc (.cells #[] 5)).heap.size:=by simp
   have hI8:=hIB.keep hba;have l5:=lt_of_row rQ;replace hE:=hide hE;replace hT:=hide hT;replace hBb:=hide hBb;replace hb:=hide hb;replace hC:=hide hC;replace hR:=hide hR;replace hA1:=hide hA1;replace hVb:=hide hVb;replace hVc:=hide hVc;replace rA:=hide rA;replace rB:=hide rB;replace rC:=hide rC;replace rQ:=hide rQ;replace hIB:=hide hIB;replace hOl:=hide hOl;replace hVn:=hide hVn;replace hEn:=hide hEn
   go_wp2_with (first|(at_builtin;refine wpList_append_B rfl _ _ rfl w71.heap.size (.slice (some ⟨w71.heap.size,0,none⟩) 0 0) [] rfl hO0 (.slice (some ⟨gi,0,none⟩) d.length oc) DN rfl hI8 hD1.out hbase ?_)|fail)
   intro v3 x3 hO3 hg3
   have hbx3:=Below.grown hba hg3 hbase (fun k e=>by cases e;exact Nat.le_refl _)
   have sz71:=hbx3.size;obtain⟨o3,c3,rfl⟩:=slen_own hO3;have hcp3:=own_capT hO3;have hOB3:=hO3.bysB hD0;clear hba hO0 hbase hI8 hg3 hO3;replace hE:=hE.out;replace hT:=hT.out;replace hBb:=hBb.out;replace hb:=hb.out;replace hC:=hC.out;replace hR:=hR.out;replace hA1:=hA1.out;replace hVb:=hVb.out;replace hVc:=hVc.out;replace rA:=rA.out;replace rB:=rB.out;replace rC:=rC.out;replace rQ:=rQ.out;replace hIB:=hIB.out;replace hOl:=hOl.out;replace hVn:=hVn.out;replace hEn:=hEn.out;replace hE:=hE.keep hbx3 rfl;replace hT:=Utf8Tabs_below hT hbx3;replace hBb:=hBb.keep hbx3;replace hb:=Below.after hb hbx3;replace hC:=hC.keep hbx3;replace hR:=rdc_keepv hR hbx3;replace hA1:=Below.after hA1 hbx3;replace hVb:=hVb.blw hbx3;replace hVc:=hVc.blw hbx3;replace rA:=keep hbx3 rA;replace rB:=keep hbx3 rB;replace rC:=keep hbx3 rC;replace rQ:=keep hbx3 rQ;replace hIB:=hIB.keep hbx3;replace hOl:=hOl.keep hbx3;replace hVn:=hVn.blw hbx3;replace hEn:=hEn.keep hbx3;clear hbx3;obtain⟨gl,ga,gw,hgl⟩:=flr_three F2
   have cR:=r_DecodeU hz.out DN _ x3 hR hOB3 (fun a l c e=>by cases e;exact hcp3)
   rw[hF2.out,hM2.out,hXU2,hgl] at cR
   go_wp2_with (fail)
   refine(cR).mono ?_;rintro e_ w81 ⟨⟨pn,pda,pdl,pdc,ppa,ppl,ppc⟩,rfl,hVp,hb81⟩;replace hE:=hE.keep hb81 rfl;replace hT:=Utf8Tabs_below hT hb81;replace hBb:=hBb.keep hb81;replace hb:=Below.after hb hb81;replace hC:=hC.keep hb81;replace hR:=rdc_keepv hR hb81;replace hA1:=Below.after hA1 hb81;replace hVb:=hVb.blw hb81;replace hVc:=hVc.blw hb81;replace rA:=keep hb81 rA;replace rB:=keep hb81 rB;replace rC:=keep hb81 rC;replace rQ:=keep hb81 rQ;replace hIB:=hIB.keep hb81;replace hOl:=hOl.keep hb81;replace hVn:=hVn.blw hb81;replace hEn:=hEn.keep hb81;clear hb81;clear cR;unfold vrv vrw;dsimp only
   replace hVp:=hVp.wid (T:=fun q=>gC+1<q) (fun q hq=>by omega)
   have hba:=(Below.refl w81.heap.size w81).alloc (Nat.le_refl _) (.cells #[.int .u64 (pn:Int),.slice pda pdl pdc,.slice ppa ppl ppc] 27);have rP:=hp1_0 w81 (.cells #[.int .u64 (pn:Int),.slice pda pdl pdc,.slice ppa ppl ppc] 27);have l6:=lt_of_row rQ
   have oneF:(#[Value.int .i64 gl,.int .i64 ga,.int .i64 gw]:Array Value).all (·.oneCell')=true:=by simp[Value.oneCell']
   replace hE:=hE.keep hba rfl;replace hT:=Utf8Tabs_below hT hba;replace hBb:=hBb.keep hba;replace hb:=Below.after hb hba;replace hC:=hC.keep hba;replace hR:=rdc_keepv hR hba;replace hA1:=Below.after hA1 hba;replace hVb:=hVb.blw hba;replace hVc:=hVc.blw hba;replace rA:=keep hba rA;replace rB:=keep hba rB;replace rC:=keep hba rC;replace rQ:=keep hba rQ;replace hIB:=hIB.keep hba;replace hOl:=hOl.keep hba;replace hVn:=hVn.blw hba;replace hEn:=hEn.keep hba;replace hVp:=hVp.blw hba;clear hba
   go_upto_region 21 with(first|(refine wpList_store_row rfl 41 _ _ rfl (gC+1) #[.int .i64 gl,.int .i64 ga,.int .i64 gw] rfl rfl 41 _ rQ infoFt rfl oneF ?_)|fail)
   generalize w81.alloc (.cells #[.int .u64 (pn:Int),.slice pda pdl pdc,.slice ppa ppl ppc] 27)=w90 at *
   generalize w81.heap.size=gP at *
   replace hVb:=hVb.other (gC+1) #[.int .i64 gl,.int .i64 ga,.int .i64 gw] (T:=fun q=>gA<q∧q<gB) (fun q hq=>⟨by omega,hq⟩)
   replace hVc:=hVc.other (gC+1) #[.int .i64 gl,.int .i64 ga,.int .i64 gw] (T:=fun q=>gA<q∧q<gC) (fun q hq=>⟨by omega,hq⟩)
   replace hVn:=hVn.other (gC+1) #[.int .i64 gl,.int .i64 ga,.int .i64 gw] (T:=fun q=>gC+1<q) (fun q hq=>⟨by omega,hq⟩)
   replace hVp:=hVp.other (gC+1) #[.int .i64 gl,.int .i64 ga,.int .i64 gw] (T:=fun q=>gC+1<q) (fun q hq=>⟨by omega,hq⟩)
   replace hEn:=hEn.other (gC+1) #[.int .i64 gl,.int .i64 ga,.int .i64 gw] (by omega)
   replace rA:=(setRow_other w90 (gC+1) gA #[.int .i64 gl,.int .i64 ga,.int .i64 gw] (by omega)).trans rA
   replace rB:=(setRow_other w90 (gC+1) gB #[.int .i64 gl,.int .i64 ga,.int .i64 gw] (by omega)).trans rB
   replace rC:=(setRow_other w90 (gC+1) gC #[.int .i64 gl,.int .i64 ga,.int .i64 gw] (by omega)).trans rC
   replace rP:=(setRow_other w90 (gC+1) gP #[.int .i64 gl,.int .i64 ga,.int .i64 gw] (by omega)).trans rP
   replace rQ:=setRow_heap w90 (gC+1) _ #[.int .i64 gl,.int .i64 ga,.int .i64 gw] _ _ rQ
   replace hA1:=below_setRow hA1 (show w2.heap.size≤gC+1 by omega) #[.int .i64 gl,.int .i64 ga,.int .i64 gw]
   replace hE:=K0_hE.out.keep hA1 rfl;replace hT:=Utf8Tabs_below K0_hT.out hA1;replace hBb:=K0_hBb.out.keep hA1;replace hb:=Below.after K0_hb.out hA1;replace hC:=K0_hC.out.keep hA1;replace hR:=rdc_keepv K0_hR.out hA1
   generalize w90.setRow (gC+1) #[.int .i64 gl,.int .i64 ga,.int .i64 gw]=w91 at *
   clear hIB hOl hOB3;have cQ:=l_faultyU w91 hE hEn;rw[hgl] at cQ
   go_wp2_with (first|(refine wpList_load_want rfl 41 _ rfl (gC+1) rfl 41 #[.int .i64 gl,.int .i64 ga,.int .i64 gw] (0,0) _ rQ Tryz.underlying41 rfl infoFt ?_)|fail)
   refine(cQ).mono ?_;rintro e_ w92 ⟨rfl,hb92⟩;replace hE:=hE.keep hb92 rfl;replace hT:=Utf8Tabs_below hT hb92;replace hBb:=hBb.keep hb92;replace hb:=Below.after hb hb92;replace hC:=hC.keep hb92;replace hR:=rdc_keepv hR hb92;replace hA1:=Below.after hA1 hb92;replace hVb:=hVb.blw hb92;replace hVc:=hVc.blw hb92;replace rA:=keep hb92 rA;replace rB:=keep hb92 rB;replace rC:=keep hb92 rC;replace rQ:=keep hb92 rQ;replace hVn:=hVn.blw hb92;replace hEn:=hEn.keep hb92;replace hVp:=hVp.blw hb92;replace rP:=keep hb92 rP;clear hb92;clear cQ;have cS:=a_same hVn.1 _ _ _ w92 (Below.refl _ _) hVp.1;rw[dec_selfv] at cS;unfold vrv vrw at cS;dsimp only at cS
   go_wp2_with (first|(refine wpList_load_want rfl 27 _ rfl (gA) rfl 27 #[.int .u64 (nn:Int),.slice nda ndl ndc,.slice npa npl npc] (0,0) _ rA Tryz.underlying27 rfl infoV ?_)|(refine wpList_load_want rfl 27 _ rfl (gP) rfl 27 #[.int .u64 (pn:Int),.slice pda pdl pdc,.slice ppa ppl ppc] (0,0) _ rP Tryz.underlying27 rfl infoV ?_)|fail)
   refine(cS).mono ?_;rintro e_ w93 ⟨rfl,hb93⟩;replace hE:=hE.keep hb93 rfl;replace hT:=Utf8Tabs_below hT hb93;replace hBb:=hBb.keep hb93;replace hb:=Below.after hb hb93;replace hC:=hC.keep hb93;replace hR:=rdc_keepv hR hb93;replace hA1:=Below.after hA1 hb93;replace hVb:=hVb.blw hb93;replace hVc:=hVc.blw hb93;replace rA:=keep hb93 rA;replace rB:=keep hb93 rB;replace rC:=keep hb93 rC;replace rQ:=keep hb93 rQ;replace hVn:=hVn.blw hb93;replace hEn:=hEn.keep hb93;replace hVp:=hVp.blw hb93;replace rP:=keep hb93 rP;clear hb93;clear cS;have cS:=a_same hVb.1 _ _ _ w93 (Below.refl _ _) hVc.1;rw[dec_selfv] at cS;unfold vrv vrw at cS;dsimp only at cS
   go_wp2_with (first|(refine wpList_load_want rfl 27 _ rfl (gB) rfl 27 #[.int .u64 (bn:Int),.slice bda bdl bdc,.slice bpa bpl bpc] (0,0) _ rB Tryz.underlying27 rfl infoV ?_)|(refine wpList_load_want rfl 27 _ rfl (gC) rfl 27 #[.int .u64 (cn:Int),.slice cda cdl cdc,.slice cpa cpl cpc] (0,0) _ rC Tryz.underlying27 rfl infoV ?_)|fail)
   refine(cS).mono ?_;rintro e_ w94 ⟨rfl,hb94⟩;replace hE:=hE.keep hb94 rfl;replace hT:=Utf8Tabs_below hT hb94;replace hBb:=hBb.keep hb94;replace hb:=Below.after hb hb94;replace hC:=hC.keep hb94;replace hR:=rdc_keepv hR hb94;replace hA1:=Below.after hA1 hb94;replace hVb:=hVb.blw hb94;replace hVc:=hVc.blw hb94;replace rA:=keep hb94 rA;replace rB:=keep hb94 rB;replace rC:=keep hb94 rC;replace rQ:=keep hb94 rQ;replace hVn:=hVn.blw hb94;replace hEn:=hEn.keep hb94;replace hVp:=hVp.blw hb94;replace rP:=keep hb94 rP;clear hb94;clear cS
   go_wp2_with (fail)
   go_ret;exact⟨rfl,hb⟩
end Go.Proofs.YtmmlkfkpblokiaaGreatDoor
namespace Go.Proofs.YtmmlkfkpblokiaaGreatDoor
set_option maxRecDepth 100000
open Go Go.ChangeShapes Go.WideShapes Go.ChangeAt Go.RowKit Go.Deep
theorem bSl56:Tryz.prog.bytesOf 88=56:=by kernel_rfl
theorem cSl5:Tryz.prog.cellsOf 88=5:=by kernel_rfl
theorem cI1s:Tryz.prog.cellsOf 3=1:=by kernel_rfl
theorem cU1s:Tryz.prog.cellsOf 23=1:=by kernel_rfl
theorem cSs1:Tryz.prog.cellsOf 22=1:=by kernel_rfl
theorem block_lts {w:World} {b o:Nat} {v:Value} (h:w.cell? ⟨b,o,none⟩=some v):b<w.heap.size:=by
 rcases Nat.lt_or_ge b w.heap.size with x|x
 ·exact x
 ·have:w.heap[b]? =none:=Array.getElem?_eq_none x
  simp[World.cell?,this] at h
theorem weightsAll_inS {H:Type} {P:Program} {e:TypeId}:∀{l:List (DataW H)} {d:DataW H},d∈l→∀n∈d.weights P e,n∈DataW.weightsAll P e l
 |x::r,d,h,n,hn=>by
  rw[DataW.weightsAll,List.mem_append]
  rcases List.mem_cons.1 h with rfl|h
  ·exact .inl hn
  ·exact .inr (weightsAll_inS h n hn)
theorem range_gs (PS:Nat→Slt) (n i:Nat) (h:i<n):gs ((List.range n).map PS) i=PS i:=by
 rw[gs,List.getD_eq_getElem?_getD,List.getElem?_map,List.getElem?_range h];rfl
theorem range_gvs (PS:Nat→Value) (n i:Nat) (h:i<n):gvs ((List.range n).map PS) i=PS i:=by
 rw[gvs,List.getD_eq_getElem?_getD,List.getElem?_map,List.getElem?_range h];rfl
theorem slot_of_trod {H:Type} {enc:TypeId×Value→H} {W:World} {m:Nat} {cs:List Value} {x:DataW H×List MemPlace} (h:DataW.trod enc Tryz.prog W 0 (fun _=>true) true m 88 cs=some x):
 ∃(no k:Int) (l mo:Nat) (u:Value) (n:Nat) (y:DataW H×List MemPlace),(∀sub,cs=srow (.mk no k l mo sub) u∧Sok (.mk no k l mo sub))∧DataW.trod enc Tryz.prog W 0 (fun _=>true) true n 22 [u]=some y∧SizeOf.sizeOf y.1<SizeOf.sizeOf x.1∧∀z∈y.1.weights Tryz.prog 22,z∈x.1.weights Tryz.prog 88:=by
 obtain⟨xs,m,rfl,rfl,hlen,hxl,hf⟩:=DataW.trod_struct Tryz.underlying88 h;rw[cSl5] at hlen;have g0:=hf 0 _ rfl;have g1:=hf 1 _ rfl;have g2:=hf 2 _ rfl;have g3:=hf 3 _ rfl;have g4:=hf 4 _ rfl;clear hf h
 match cs,hlen,xs,hxl,g0,g1,g2,g3,g4 with
 |[c0,c1,c2,c3,c4],_,[x0,x1,x2,x3,x4],_,g0,g1,g2,g3,g4=>
  obtain⟨K,e0,_,wK⟩:=DataW.trod_int Tryz.underlying3 g0;obtain⟨A,e1,_,wA⟩:=DataW.trod_int Tryz.underlying3 g1;obtain⟨C,e2,_,wC⟩:=DataW.trod_int Tryz.underlying23 g2;obtain⟨E,e3,_,wE⟩:=DataW.trod_int Tryz.underlying23 g3
  have q0:c0=.int .i64 K:=by
   have q:([c0,c1,c2,c3,c4].drop 0).take (Tryz.prog.cellsOf 3)=[.int .i64 K]:=e0;rw[cI1s] at q
   simpa using q
  have q1:c1=.int .i64 A:=by
   have q:([c0,c1,c2,c3,c4].drop 1).take (Tryz.prog.cellsOf 3)=[.int .i64 A]:=e1;rw[cI1s] at q
   simpa using q
  have q2:c2=.int .u64 C:=by
   have q:([c0,c1,c2,c3,c4].drop 2).take (Tryz.prog.cellsOf 23)=[.int .u64 C]:=e2;rw[cU1s] at q
   simpa using q
  have q3:c3=.int .u64 E:=by
   have q:([c0,c1,c2,c3,c4].drop 3).take (Tryz.prog.cellsOf 23)=[.int .u64 E]:=e3;rw[cU1s] at q
   simpa using q
  have q4:DataW.trod enc Tryz.prog W 0 (fun _=>true) true m 22 [c4]=some x4:=by
   have q:DataW.trod enc Tryz.prog W 0 (fun _=>true) true m 22 (([c0,c1,c2,c3,c4].drop 4).take (Tryz.prog.cellsOf 22))=some x4:=g4
   rw[cSs1] at q
   simpa using q
  have bK:=bounds_i64 wK;have bA:=bounds_i64 wA;have bC:=bounds_u64 wC;have bE:=bounds_u64 wE;obtain⟨N,rfl⟩:=Int.eq_ofNat_of_zero_le bC.1;obtain⟨M,rfl⟩:=Int.eq_ofNat_of_zero_le bE.1
  refine⟨K,A,N,M,c4,m,x4,fun sub=>⟨by rw[q0,q1,q2,q3];rfl,bK,bA,by show N<_;omega,by show M<_;omega⟩,q4,?_,fun z hz=>?_⟩
  ·simp only[List.map_cons,List.map_nil,DataW.agg.sizeOf_spec,List.cons.sizeOf_spec]
   omega
  ·simp only[DataW.weights,Tryz.underlying88]
   exact DataW.weights_mem_each (j:=4) rfl rfl z hz
theorem slo_of_size {H:Type} {enc:TypeId×Value→H} {W:World}:∀(N:Nat) {m:Nat} {v:Value} {x:DataW H×List MemPlace},SizeOf.sizeOf x.1≤N→DataW.trod enc Tryz.prog W 0 (fun _=>true) true m 22 [v]=some x→(∀n∈x.1.weights Tryz.prog 22,n≤reachBytes)→∃ts:List Slt,Slo W v ts
 |0,m,v,x,hN,_,_=>by
  exfalso
  cases h:x.1<;>rw[h] at hN<;>simp at hN
 |N+1,m,v,x,hN,hf,hs=>by
  rcases open_slice Tryz.underlying22 hf with⟨hcs,hx⟩|⟨a,len,cap,m,n,D,Pl,hcs,_,hl,hm,hmm,hx,hel⟩
  ·injection hcs with hv _
   subst hv
   exact⟨[],.mk none 0 [] [] (by simp) (by simp) (fun _=>rfl) (fun i hi=>by simp at hi) (fun i hi=>by simp at hi)⟩
  ·injection hcs with hv _
   subst hv
   subst hx;simp only[if_true] at hmm;subst hmm;rw[cSl5] at hel
   have hb:=hs ((((List.range len).map D).length+((List.range (m-len)).map fun j=>D (len+j)).length)*56) (by simp[DataW.weights,Tryz.underlying22,bSl56])
   simp only[List.length_map,List.length_range,reachBytes] at hb
   obtain⟨PS,hPS⟩:=@choose_lt (Slt×Value) ⟨(s0,undef)⟩ len (fun i f=>∃cs',W.cells? 0 (a.add (i*5)) 5=some cs'∧cs'=srow f.1 f.2∧Sok f.1∧Slo W f.2 f.1.sub) (fun i hi=>by
    obtain⟨cs',h1,h2⟩:=hel i (by omega)
    obtain⟨no,k,l,mo,u,n',y,h3,h4,h5,h6⟩:=slot_of_trod h2;have hmem:D i∈(List.range len).map D:=List.mem_map.2 ⟨i,List.mem_range.2 hi,rfl⟩;have hsz:SizeOf.sizeOf (D i)<SizeOf.sizeOf ((List.range len).map D):=List.sizeOf_lt_of_mem hmem
    obtain⟨sub,hsub⟩:=slo_of_size N (x:=y) (by
     simp only[DataW.slice.sizeOf_spec] at hN;simp only at h5
     omega) h4 (fun z hz=>hs z (by
     simp only[DataW.weights,Tryz.underlying22]
     exact List.mem_cons_of_mem _ (List.mem_append_left _ (weightsAll_inS hmem z (h6 z hz)))))
    exact⟨(.mk no k l mo sub,u),cs',h1,(h3 sub).1,(h3 sub).2,hsub⟩)
   have e:(Value.slice (some a) len m)=.slice (some a) ((List.range len).map fun i=>(PS i).1).length m:=by simp
   rw[e]
   refine⟨_,.mk (some a) m _ ((List.range len).map fun i=>(PS i).2) (by simp;omega) (by simp;exact hl) (fun e=>by cases e) (fun i hi=>?_) (fun i hi=>?_)⟩
   ·have hi':i<len:=by simpa using hi
    obtain⟨cs',h1,h2,h3,_⟩:=hPS i hi'
    obtain⟨_,hln,hc⟩:=World.cells?_some h1;obtain⟨bb,off,spot⟩:=a
    have hspot:spot=none:=by
     obtain⟨cs0,h0,_⟩:=hel 0 (by omega)
     obtain⟨_,hl0,hc0⟩:=World.cells?_some h0
     have:=hc0 0 (by omega)
     rw[List.getElem?_eq_getElem (by omega)] at this
     simpa[Addr.add] using World.cell?_spot this
    subst hspot;rw[range_gs _ len i hi',range_gvs _ len i hi']
    have hr:W.rangeAt bb (off+i*5) cs':=by
     intro j v hv
     have hj:j<5:=by have:=(List.getElem?_eq_some_iff.1 hv).1;omega
     have:=hc j hj;rw[addr_add,addr_add,hv] at this;exact this
    rw[h2] at hr;exact⟨bb,off,rfl,block_lts (hr 0 _ rfl),hr,h3⟩
   ·have hi':i<len:=by simpa using hi
    obtain⟨_,_,_,_,h4⟩:=hPS i hi'
    rw[range_gs _ len i hi',range_gvs _ len i hi'];exact h4
theorem slo_of_trod {H:Type} {enc:TypeId×Value→H} {W:World} {m:Nat} {v:Value} {x:DataW H×List MemPlace} (hf:DataW.trod enc Tryz.prog W 0 (fun _=>true) true m 22 [v]=some x) (hs:∀n∈x.1.weights Tryz.prog 22,n≤reachBytes):∃ts:List Slt,Slo W v ts:=slo_of_size _ (Nat.le_refl _) hf hs
end Go.Proofs.YtmmlkfkpblokiaaGreatDoor
namespace Go.Proofs.YtmmlkfkpblokiaaGreatDoor
set_option maxRecDepth 100000
open Go Go.ChangeShapes Go.WideShapes Go.ChangeAt Go.RowKit Go.Deep
end Go.Proofs.YtmmlkfkpblokiaaGreatDoor
namespace Go.Proofs.YtmmlkfkpblokiaaGreatDoor
set_option maxRecDepth 100000
open Go Go.RowKit
def rU:Go.Shelf.Ren where
 f:=fun n=>n
 t:=fun n=>if n=5 then 5 else if n=119 then 221 else if n=138 then 223 else 224
 g:=fun n=>if n=3 then 2 else 3
theorem tabs_of_reads {W : World} (h : laidMet Tryz.prog [("unicode/utf8.acceptRanges", Rows.laid_unicode_utf8_acceptRanges), ("unicode/utf8.first", Rows.laid_unicode_utf8_first)] W) : Lib.Utf8Tabs 2 3 W :=
 utf8Tabs_of_readsT (P:=Tryz.prog) (ρ:=rU) ⟨by kernel_rfl,by kernel_rfl,by kernel_rfl,by kernel_rfl⟩ ⟨by kernel_rfl,by kernel_rfl,by kernel_rfl,by kernel_rfl,by kernel_rfl,by kernel_rfl,by kernel_rfl⟩ (Lib.laidMet.reads h (.tail _ (.head _))) (Lib.laidMet.reads h (.head _))
end Go.Proofs.YtmmlkfkpblokiaaGreatDoor
