import Derived.Test.YtmmlkfkpblokiaaGreatDoorRows
import Derived.Test.YtmmlkfkpblokiaaGreatDoorQzKyo
import Derived.Lib.LaidU8T
import Derived.Lib.LaidIn
set_option maxRecDepth 100000
set_option maxHeartbeats 16000000
namespace Go.Proofs.YtmmlkfkpblokiaaGreatDoor
open Go Go.RowKit Go.Sort
attribute [local go_sem] setCell_drewN alloc_drewN
theorem dec_selfx {X:VT}:(@decide (X=X) (Classical.propDecidable _))=true:=by simp
theorem EvQ.of {W:World} {base:Nat} {F:Option Flt3} {ev:Value} (h:match F with
 |none=>ev=.nilIface
 |some f=>f.why≠0∧∃g,ev=.iface 70 (.pointer (some ⟨g,0,none⟩))∧base≤g∧W.heap[g]? =some (.cells (frw f) 41 (0,0))):EvQ W base F ev:=h
def encU (F:Option Flt3) (E:List B):List B:=match F with
 |none=>E
 |some _=>[]
theorem own_nilx (W:World) (b:Nat):Own W b nS []:=⟨rfl,.inl ⟨rfl,rfl⟩⟩
theorem a_CheckU {g:Nat} {ts:List Slt} (S:Nat→Prop) (x:VR) (X:VT) (w:World) (hT:Lib.Utf8Tabs 2 3 w) (hC:Cdc w g ts) (hX:VtM w S x X) (hh:1+(htT ts:Int)≤9223372036854775807):
 Calls Tryz.prog 12 #[.pointer (some ⟨g,0,none⟩),.agg (vrv x)] w fun e w'=>∃ev,e=.returned ev∧EvQ w' w.heap.size (ckT utD flD ts X 1) ev∧Below w.heap.size w w':=by
 refine(a_CheckT plo8 S x X w hT hC hX hh).mono ?_;rintro e w' ⟨h,hb⟩
 have hw:=fun f (q:ckT utD flD ts X 1=some f)=>ck_why q
 generalize ckT utD flD ts X 1=F at *
 cases F with
 |none=>obtain rfl:e=.returned .nilIface:=h;exact⟨_,rfl,rfl,hb⟩
 |some f=>obtain⟨q,rfl,h1,h2⟩:=h;exact⟨_,rfl,⟨hw f rfl,q,rfl,h1,h2⟩,hb⟩
theorem a_EncodeU {g:Nat} {ts:List Slt} (hgd:gd ts) (S:Nat→Prop) (x:VR) (X:VT) (w:World) (hT:Lib.Utf8Tabs 2 3 w) (hC:Cdc w g ts) (hX:VtM w S x X) (hh:1+(htT ts:Int)≤9223372036854775807):
 Calls Tryz.prog 15 #[.pointer (some ⟨g,0,none⟩),.agg (vrv x)] w fun e w'=>∃u ev,e=.returned (.tuple #[u,ev])∧Own w' w.heap.size u (encU (ckT utD flD ts X 1) (enT ts X))∧EvQ w' w.heap.size (ckT utD flD ts X 1) ev∧Below w.heap.size w w':=by
 refine(a_EncodeT plo8 hgd S x X w hT hC hX hh).mono ?_;rintro e w' ⟨h,hb⟩
 have hw:=fun f (q:ckT utD flD ts X 1=some f)=>ck_why q
 generalize ckT utD flD ts X 1=F at *
 cases F with
 |none=>obtain⟨u,rfl,hO⟩:=h;exact⟨u,_,rfl,hO,rfl,hb⟩
 |some f=>obtain⟨q,rfl,h1,h2⟩:=h;exact⟨_,_,rfl,own_nilx _ _,⟨hw f rfl,q,rfl,h1,h2⟩,hb⟩
theorem r_EncodeU {g:Nat} {ts:List Slt} (hv:vld ts=0) (x:VR) (X:VT) (w:World) (hC:Rdc w g ts) {S:Nat→Prop} (hX:VtM w S x X):
 Calls Tryz.prog 16 #[.pointer (some ⟨g,0,none⟩),.agg (vrv x)] w fun e w'=>∃u,e=.returned (.tuple #[u,.agg (flr (ckT utD flD ts X 1))])∧Own w' w.heap.size u (encU (ckT utD flD ts X 1) (enT ts X))∧Below w.heap.size w w':=by
 cases hF:ckT utD flD ts X 1 with
 |none=>exact(r_EncodeT hv _ x X w hC hX.lim (Nat.le_refl _) hF).mono fun e w' h=>h
 |some f=>exact(r_EncodeE hv _ x X w hC hX.lim f hF).mono fun e w' h=>⟨_,h.1,own_nilx _ _,h.2⟩
theorem enc_lenU (ts:List Slt) (X:VT) (F:Option Flt3):(encU F (enT ts X)).length≤4194304:=by
 cases F with
 |none=>exact eout_len _
 |some f=>exact Nat.zero_le _
theorem row_midx {W:World} {g:Nat} {kd:Int} {oth:Bool} {xn:Nat} {u v w:Value} (h:W.heap[g]? =some (.cells #[.int .i64 kd,.bool oth,.int .u64 (xn:Int),u,v,w] 57 (0,0))):W.rangeAt g 2 [.int .u64 (xn:Int),u,v]:=by
 intro j z hz;have hj:j<3:=(List.getElem?_eq_some_iff.1 hz).1;rw[cell_of_row _ _ _ _ _ _ h]
 obtain rfl|rfl|rfl:j=0∨j=1∨j=2:=by omega
 all_goals exact hz
theorem infoOpX:(Tryz.prog.info? 57).map (·.size)=some 6:=by kernel_rfl
theorem exact_any {v v2 sv:Value} {ts t2:List Slt} {os:List OpR} (W:World) (hE:Ety W) (hT:Lib.Utf8Tabs 2 3 W) (hS:Slo W v ts) (hS2:Slo W v2 t2) (hSc:ScX W sv os):Calls Tryz.prog 6 #[v,v2,sv] W fun e W'=>e=.returned (.bool true)∧Below W.heap.size W W':=by
 obtain⟨ao,cap,rfl⟩:=hS.form;obtain⟨ao2,cap2,rfl⟩:=hS2.form;have hSf:=hSc;obtain⟨sao,scap,rfl,hsm,_⟩:=hSf;have hb:=Below.refl W.heap.size W
 go_enter Tryz.func6,Tryz.ntmps6
 go_wp2_with (fail)
 have cBs:=l_bigSlots hS;obtain⟨bs,hbs⟩:∃bs,decide (slL ts 10000<0)=bs:=⟨_,rfl⟩;rw[hbs] at cBs;refine(cBs).mono ?_;rintro e_ w1 ⟨rfl,hb1⟩;replace hE:=hE.keep hb1 rfl;replace hT:=Utf8Tabs_below hT hb1;replace hS:=hS.keep hb1;replace hS2:=hS2.keep hb1;replace hSc:=hSc.keep hb1;replace hb:=Below.after hb hb1;clear hb1;clear cBs
 cases bs
 rotate_left
 ·go_wp2_with (fail)
  go_ret
  exact⟨rfl,hb⟩
 have hbig0:0≤slL ts 10000:=by simpa using hbs
 clear hbs;replace hbig0:=hide hbig0
 go_wp2_with (fail)
 have cBs:=l_bigSlots hS2;obtain⟨bs,hbs⟩:∃bs,decide (slL t2 10000<0)=bs:=⟨_,rfl⟩;rw[hbs] at cBs;refine(cBs).mono ?_;rintro e_ w2 ⟨rfl,hb2⟩;replace hE:=hE.keep hb2 rfl;replace hT:=Utf8Tabs_below hT hb2;replace hS:=hS.keep hb2;replace hS2:=hS2.keep hb2;replace hSc:=hSc.keep hb2;replace hb:=Below.after hb hb2;clear hb2;clear cBs
 cases bs
 rotate_left
 ·go_wp2_with (fail)
  go_ret
  exact⟨rfl,hb⟩
 have hbig1:0≤slL t2 10000:=by simpa using hbs
 clear hbs;replace hbig1:=hide hbig1
 go_wp2_with (fail)
 refine(l_made hS hbig0.out w2 (Below.refl _ _)).mono ?_;rintro e_ w3 ⟨hbm,hor⟩;replace hE:=hE.keep hbm rfl;replace hT:=Utf8Tabs_below hT hbm;replace hS:=hS.keep hbm;replace hS2:=hS2.keep hbm;replace hSc:=hSc.keep hbm;replace hb:=Below.after hb hbm;clear hbm
 rcases hor with⟨hz0,gc0,gr0,u0_,rfl,hC0,hgr,hU⟩|⟨hz0,rfl⟩
 rotate_left
 ·clear hz0
  go_wp2_with (fail)
  refine(l_made hS2 hbig1.out w3 (Below.refl _ _)).mono ?_;rintro e_ w4 ⟨hbm,hor⟩;replace hE:=hE.keep hbm rfl;replace hT:=Utf8Tabs_below hT hbm;replace hS:=hS.keep hbm;replace hS2:=hS2.keep hbm;replace hSc:=hSc.keep hbm;replace hb:=Below.after hb hbm;clear hbm
  rcases hor with⟨hz1,gc1,gr1,u1_,rfl,hC1,hgr,hU⟩|⟨hz1,rfl⟩
  rotate_left
  ·clear hz1
   go_wp2_with (fail)
   go_ret;exact⟨rfl,hb⟩
  clear hz1 hC1 hgr hU
  go_wp2_with (fail)
  go_ret;exact⟨rfl,hb⟩
 have hR0:Rdc w3 gr0 ts:=⟨u0_,hgr,hU⟩;clear hgr hU
 go_wp2_with (fail)
 refine(l_made hS2 hbig1.out w3 (Below.refl _ _)).mono ?_;rintro e_ w14 ⟨hbm,hor⟩;replace hE:=hE.keep hbm rfl;replace hT:=Utf8Tabs_below hT hbm;replace hS:=hS.keep hbm;replace hS2:=hS2.keep hbm;replace hSc:=hSc.keep hbm;replace hb:=Below.after hb hbm;replace hC0:=hC0.keep hbm;replace hR0:=rdc_keepv hR0 hbm;clear hbm
 rcases hor with⟨hz1,gc1,gr1,u1_,rfl,hC1,hgr,hU⟩|⟨hz1,rfl⟩
 rotate_left
 ·clear hz1
  go_wp2_with (fail)
  go_ret;exact⟨rfl,hb⟩
 have hR1:Rdc w14 gr1 t2:=⟨u1_,hgr,hU⟩;clear hgr hU hS hS2 hbig0 hbig1;replace hz0:=hide hz0;replace hz1:=hide hz1
 go_wp2_with (fail)
 go_loopw [13,14,15,16,17,18,19,20,21,22,23,24,25,26,27,28,29] (fun i _ _ _ _ _ _ _ _ _ _ _ _ _ _ _ _ wr=>∃k:Nat,k≤os.length∧i=.int .i64 k∧Below w14.heap.size w14 wr) (fun i _ _ _ _ _ _ _ _ _ _ _ _ _ _ _ _ _=>os.length-(intOf i).toNat)
 case atStart=>exact⟨0,by omega,rfl,Below.refl _ _⟩
 case round=>
  obtain⟨k,hk,rfl,hbx⟩:=hrel;replace hE:=hE.keep hbx rfl;replace hT:=Utf8Tabs_below hT hbx;replace hSc:=hSc.keep hbx;replace hb:=Below.after hb hbx;replace hC0:=hC0.keep hbx;replace hR0:=rdc_keepv hR0 hbx;replace hC1:=hC1.keep hbx;replace hR1:=rdc_keepv hR1 hbx
  by_cases hlt:k<os.length
  ·have hd:decide ((k:Int)<(os.length:Int))=true:=by simp;omega
   have hi9:0≤(k:Int)∧(k:Int)<(os.length:Int):=by omega
   obtain⟨b,off,rfl,hbl,hr,hV,hB⟩:=hSc.at_ hlt
   generalize gor os k=o at *
   obtain⟨kd,oth,x,X,bv,bd⟩:=o;unfold opc at hr;dsimp only at hr hV hB;obtain⟨xn,xda,xdl,xdc,xpa,xpl,xpc⟩:=x;dsimp only at hr;obtain⟨bo,bc,rfl⟩:=hB.1.form;have hBb:=hB.1;have hcap:∀a l c,Value.slice bo bd.length bc=.slice a l c→l≤c:=hB.2.2;clear hB hSc;replace hcap:=hide hcap;have hba:=(Below.refl wr.heap.size wr).alloc (Nat.le_refl _) (.cells #[.int .i64 kd,.bool oth,.int .u64 (xn:Int),.slice xda xdl xdc,.slice xpa xpl xpc,.slice bo bd.length bc] 57);have rO:=hp1_0 wr (.cells #[.int .i64 kd,.bool oth,.int .u64 (xn:Int),.slice xda xdl xdc,.slice xpa xpl xpc,.slice bo bd.length bc] 57);replace hE:=hE.keep hba rfl;replace hT:=Utf8Tabs_below hT hba;replace hb:=Below.after hb hba;replace hC0:=hC0.keep hba;replace hR0:=rdc_keepv hR0 hba;replace hC1:=hC1.keep hba;replace hR1:=rdc_keepv hR1 hba;replace hbx:=Below.after hbx hba;replace hV:=hV.blw hba;replace hBb:=hBb.keep hba;clear hba
   go_upto_region 11 with(first|(refine wpList_load_mid rfl 57 _ rfl b (off+k*6) rfl _ _ hr Tryz.underlying57 rfl infoOpX ?_)|fail)
   clear hr
   generalize wr.alloc (.cells #[.int .i64 kd,.bool oth,.int .u64 (xn:Int),.slice xda xdl xdc,.slice xpa xpl xpc,.slice bo bd.length bc] 57)=w20 at *
   generalize wr.heap.size=gO at *
   obtain⟨px,py,tx,hpx,hpy,hCx,hRx,hzx⟩:∃px py tx,px=(if oth then gc1 else gc0)∧py=(if oth then gr1 else gr0)∧Cdc w20 px tx∧Rdc w20 py tx∧vld tx=0:=by
    cases oth
    ·exact⟨gc0,gr0,ts,rfl,rfl,hC0,hR0,hz0.out⟩
    ·exact⟨gc1,gr1,t2,rfl,rfl,hC1,hR1,hz1.out⟩
   clear hC0 hC1 hR0 hR1;have cO1:=cell_of_row _ _ 1 _ _ _ rO
   go_upto_if 79 with(fail)
   go_cut [15,16] from 80 to 81 (fun xv yv wx=>xv=.pointer (some ⟨px,0,none⟩)∧yv=.pointer (some ⟨py,0,none⟩)∧wx=w20)
   case first=>
    cases oth
    ·replace hpx:Hid (px=gc0):=hide hpx
     replace hpy:Hid (py=gr0):=hide hpy
     go_wp2_with (fail)
     go_meet
     case rel=>exact⟨by rw[hpx.out],by rw[hpy.out],rfl⟩
    ·replace hpx:Hid (px=gc1):=hide hpx
     replace hpy:Hid (py=gr1):=hide hpy
     go_wp2_with (fail)
     go_meet
     case rel=>exact⟨by rw[hpx.out],by rw[hpy.out],rfl⟩
   case rest=>
    obtain⟨rfl,rfl,rfl⟩:=hcut;clear hpx hpy cO1;have ok:=vld_ok hzx;replace hzx:=hide hzx;replace ok:=hide ok;have hrV:=row_midx rO;have cBv:=a_bigValue _ hV;obtain⟨bg,hbv⟩:∃bg,bgV X=bg:=⟨_,rfl⟩;rw[hbv] at cBv;unfold vrv vrw at cBv;dsimp only at cBv
    go_wp2_with (first|(refine wpList_load_mid rfl 27 _ rfl gO 2 rfl _ _ hrV Tryz.underlying27 rfl infoV ?_)|fail)
    refine(cBv).mono ?_;rintro e_ w31 ⟨rfl,hb31⟩;replace hrV:=rangeS_keep2 hrV hb31 (lt_of_row rO);replace hE:=hE.keep hb31 rfl;replace hT:=Utf8Tabs_below hT hb31;replace hb:=Below.after hb hb31;replace hbx:=Below.after hbx hb31;replace hV:=hV.blw hb31;replace hBb:=hBb.keep hb31;replace rO:=keep hb31 rO;replace hCx:=hCx.keep hb31;replace hRx:=rdc_keepv hRx hb31;clear hb31;clear cBv
    cases bg
    rotate_left
    ·clear hbv
     go_wp2_with (fail)
     refine⟨⟨k+1,by omega,by go_num,hbx⟩,?_⟩
     simp[intOf];omega
    clear hbv;have cK0:=cell_of_row _ _ 0 _ _ _ rO
    by_cases k1:kd=1
    ·subst k1
     obtain⟨F,hF⟩:∃F,ckT utD flD tx X 1=F:=⟨_,rfl⟩
     have hEl:=enc_lenU tx X F;obtain⟨EE,hEE⟩:∃EE,encU F (enT tx X)=EE:=⟨_,rfl⟩;rw[hEE] at hEl;obtain⟨fl,fa,fw,hfl⟩:=flr_three F;replace hF:=hide hF;replace hEE:=hide hEE;have cE:=a_EncodeU ok.out.2.2.1 _ _ X _ hT hCx hV ok.out.2.2.2.2;rw[hF.out,hEE.out] at cE;unfold vrv vrw at cE;dsimp only at cE
     go_wp2_with (first|(refine wpList_load_mid rfl 27 _ rfl gO 2 rfl _ _ hrV Tryz.underlying27 rfl infoV ?_)|fail)
     refine(cE).mono ?_;rintro e_ w32 ⟨ua,ev1,rfl,hO1,hE1,hb32⟩;replace hrV:=rangeS_keep2 hrV hb32 (lt_of_row rO);replace hE:=hE.keep hb32 rfl;replace hT:=Utf8Tabs_below hT hb32;replace hb:=Below.after hb hb32;replace hbx:=Below.after hbx hb32;replace hV:=hV.blw hb32;replace hBb:=hBb.keep hb32;replace rO:=keep hb32 rO;replace hCx:=hCx.keep hb32;replace hRx:=rdc_keepv hRx hb32;clear hb32;clear cE;obtain⟨a1,c1,rfl⟩:=slen_own hO1;have cR:=r_EncodeU hzx.out _ X w32 hRx hV;rw[hF.out,hEE.out,hfl] at cR;unfold vrv vrw at cR;dsimp only at cR
     go_wp2_with (first|(refine wpList_load_mid rfl 27 _ rfl gO 2 rfl _ _ hrV Tryz.underlying27 rfl infoV ?_)|fail)
     refine(cR).mono ?_;rintro e_ w33 ⟨ub,rfl,hO2,hb33⟩;replace hrV:=rangeS_keep2 hrV hb33 (lt_of_row rO);replace hE:=hE.keep hb33 rfl;replace hT:=Utf8Tabs_below hT hb33;replace hb:=Below.after hb hb33;replace hbx:=Below.after hbx hb33;replace hV:=hV.blw hb33;replace hBb:=hBb.keep hb33;replace rO:=keep hb33 rO;replace hCx:=hCx.keep hb33;replace hRx:=rdc_keepv hRx hb33;replace hO1:=hO1.keep hb33;replace hE1:=hE1.keep hb33;clear hb33;clear cR;obtain⟨a2,c2,rfl⟩:=slen_own hO2;have hba:Below w33.heap.size w33 (w33.alloc (.cells #[.int .i64 fl,.int .i64 fa,.int .i64 fw] 41)):=((Below.refl w33.heap.size w33).alloc (Nat.le_refl _) (.cells #[.int .i64 fl,.int .i64 fa,.int .i64 fw] 41));have rQ:=hp1_0 w33 (.cells #[.int .i64 fl,.int .i64 fa,.int .i64 fw] 41);replace hrV:=rangeS_keep2 hrV hba (lt_of_row rO);replace hE:=hE.keep hba rfl;replace hT:=Utf8Tabs_below hT hba;replace hb:=Below.after hb hba;replace hbx:=Below.after hbx hba;replace hV:=hV.blw hba;replace hBb:=hBb.keep hba;replace rO:=keep hba rO;replace hCx:=hCx.keep hba;replace hRx:=rdc_keepv hRx hba;replace hO1:=hO1.keep hba;replace hE1:=hE1.keep hba;replace hO2:=hO2.keep hba;clear hba
     go_upto_region 20 with(fail)
     generalize (w33.alloc (.cells #[.int .i64 fl,.int .i64 fa,.int .i64 fw] 41))=w60 at *
     generalize w33.heap.size=gQ at *
     have kA:=conv_byT (hO1.bysB (by omega)).1
     have kB:=conv_byT (hO2.bysB (by omega)).1
     have cQ:=l_faultyU w60 hE hE1;rw[hfl] at cQ
     go_wp2_with (first|(refine wpList_load_want rfl 41 _ rfl (gQ) rfl 41 #[.int .i64 fl,.int .i64 fa,.int .i64 fw] (0,0) _ rQ Tryz.underlying41 rfl infoFt ?_)|fail)
     refine(cQ).mono ?_;rintro e_ w61 ⟨rfl,hb61⟩;replace hrV:=rangeS_keep2 hrV hb61 (lt_of_row rO);replace hE:=hE.keep hb61 rfl;replace hT:=Utf8Tabs_below hT hb61;replace hb:=Below.after hb hb61;replace hbx:=Below.after hbx hb61;replace hV:=hV.blw hb61;replace hBb:=hBb.keep hb61;replace rO:=keep hb61 rO;replace hCx:=hCx.keep hb61;replace hRx:=rdc_keepv hRx hb61;replace hO1:=hO1.keep hb61;replace hE1:=hE1.keep hb61;replace hO2:=hO2.keep hb61;replace rQ:=keep hb61 rQ;clear hb61;clear cQ kA kB
     go_wp2_with (fail)
     refine⟨⟨k+1,by omega,by go_num,hbx⟩,?_⟩
     simp[intOf];omega
    by_cases k2:kd=2
    ·subst k2
     clear k1
     obtain⟨F,hF⟩:∃F,deT utD flD tx bd 0=F:=⟨_,rfl⟩;obtain⟨M,hM⟩:∃M,mgT tx bd=M:=⟨_,rfl⟩
     generalize hXU:valU F M=XU at *
     obtain⟨fl,fa,fw,hfl⟩:=flr_three F;replace hF:=hide hF;replace hM:=hide hM;have cB5:=cell_of_row _ _ 5 _ _ _ rO;have cD:=a_DecodeU bd _ w31 hT hCx hBb hcap.out;rw[hF.out,hM.out,hXU] at cD
     go_wp2_with (fail)
     refine(cD).mono ?_;rintro e_ w32 ⟨⟨an,ada,adl,adc,apa,apl,apc⟩,ev1,rfl,hVa,hEa,hb32⟩;replace hrV:=rangeS_keep2 hrV hb32 (lt_of_row rO);replace hE:=hE.keep hb32 rfl;replace hT:=Utf8Tabs_below hT hb32;replace hb:=Below.after hb hb32;replace hbx:=Below.after hbx hb32;replace hV:=hV.blw hb32;replace hBb:=hBb.keep hb32;replace rO:=keep hb32 rO;replace hCx:=hCx.keep hb32;replace hRx:=rdc_keepv hRx hb32;clear hb32;clear cD;unfold vrv vrw;dsimp only;have hba:Below w32.heap.size w32 (w32.alloc (.cells #[.int .u64 (an:Int),.slice ada adl adc,.slice apa apl apc] 27)):=((Below.refl w32.heap.size w32).alloc (Nat.le_refl _) (.cells #[.int .u64 (an:Int),.slice ada adl adc,.slice apa apl apc] 27));have rA:=hp1_0 w32 (.cells #[.int .u64 (an:Int),.slice ada adl adc,.slice apa apl apc] 27);replace hrV:=rangeS_keep2 hrV hba (lt_of_row rO);replace hE:=hE.keep hba rfl;replace hT:=Utf8Tabs_below hT hba;replace hb:=Below.after hb hba;replace hbx:=Below.after hbx hba;replace hV:=hV.blw hba;replace hBb:=hBb.keep hba;replace rO:=keep hba rO;replace hCx:=hCx.keep hba;replace hRx:=rdc_keepv hRx hba;replace hVa:=hVa.blw hba;replace hEa:=hEa.keep hba;clear hba
     go_upto_region 23 with(fail)
     generalize (w32.alloc (.cells #[.int .u64 (an:Int),.slice ada adl adc,.slice apa apl apc] 27))=w60 at *
     generalize w32.heap.size=gA at *
     replace cB5:=cell_of_row _ _ 5 _ _ _ rO;have cR:=r_DecodeU hzx.out bd _ w60 hRx hBb hcap.out;rw[hF.out,hM.out,hXU,hfl] at cR
     go_wp2_with (fail)
     refine(cR).mono ?_;rintro e_ w61 ⟨⟨cn,cda,cdl,cdc,cpa,cpl,cpc⟩,rfl,hVc,hb61⟩;replace hrV:=rangeS_keep2 hrV hb61 (lt_of_row rO);replace hE:=hE.keep hb61 rfl;replace hT:=Utf8Tabs_below hT hb61;replace hb:=Below.after hb hb61;replace hbx:=Below.after hbx hb61;replace hV:=hV.blw hb61;replace hBb:=hBb.keep hb61;replace rO:=keep hb61 rO;replace hCx:=hCx.keep hb61;replace hRx:=rdc_keepv hRx hb61;replace hVa:=hVa.blw hb61;replace hEa:=hEa.keep hb61;replace rA:=keep hb61 rA;clear hb61;clear cR;unfold vrv vrw;dsimp only
     have hba:Below w61.heap.size w61 ((w61.alloc (.cells #[.int .u64 (cn:Int),.slice cda cdl cdc,.slice cpa cpl cpc] 27)).alloc (.cells #[.int .i64 fl,.int .i64 fa,.int .i64 fw] 41)):=(((Below.refl w61.heap.size w61).alloc (Nat.le_refl _) (.cells #[.int .u64 (cn:Int),.slice cda cdl cdc,.slice cpa cpl cpc] 27)).alloc (by simp) (.cells #[.int .i64 fl,.int .i64 fa,.int .i64 fw] 41))
     have rC:=hp2_0 w61 (.cells #[.int .u64 (cn:Int),.slice cda cdl cdc,.slice cpa cpl cpc] 27) (.cells #[.int .i64 fl,.int .i64 fa,.int .i64 fw] 41);have rQ:=hp2_1 w61 (.cells #[.int .u64 (cn:Int),.slice cda cdl cdc,.slice cpa cpl cpc] 27) (.cells #[.int .i64 fl,.int .i64 fa,.int .i64 fw] 41);replace hrV:=rangeS_keep2 hrV hba (lt_of_row rO);replace hE:=hE.keep hba rfl;replace hT:=Utf8Tabs_below hT hba;replace hb:=Below.after hb hba;replace hbx:=Below.after hbx hba;replace hV:=hV.blw hba;replace hBb:=hBb.keep hba;replace rO:=keep hba rO;replace hCx:=hCx.keep hba;replace hRx:=rdc_keepv hRx hba;replace hVa:=hVa.blw hba;replace hEa:=hEa.keep hba;replace rA:=keep hba rA;replace hVc:=hVc.blw hba;clear hba
     go_upto_region 24 with(fail)
     generalize ((w61.alloc (.cells #[.int .u64 (cn:Int),.slice cda cdl cdc,.slice cpa cpl cpc] 27)).alloc (.cells #[.int .i64 fl,.int .i64 fa,.int .i64 fw] 41))=w70 at *
     generalize w61.heap.size=gC at *
     have cS:=a_same hVa.1 _ _ _ w70 (Below.refl _ _) hVc.1;rw[dec_selfx] at cS;unfold vrv vrw at cS;dsimp only at cS;clear cK0 cB5
     go_wp2_with (first|(refine wpList_load_want rfl 27 _ rfl (gA) rfl 27 #[.int .u64 (an:Int),.slice ada adl adc,.slice apa apl apc] (0,0) _ rA Tryz.underlying27 rfl infoV ?_)|(refine wpList_load_want rfl 27 _ rfl (gC) rfl 27 #[.int .u64 (cn:Int),.slice cda cdl cdc,.slice cpa cpl cpc] (0,0) _ rC Tryz.underlying27 rfl infoV ?_)|fail)
     refine(cS).mono ?_;rintro e_ w71 ⟨rfl,hb71⟩;replace hrV:=rangeS_keep2 hrV hb71 (lt_of_row rO);replace hE:=hE.keep hb71 rfl;replace hT:=Utf8Tabs_below hT hb71;replace hb:=Below.after hb hb71;replace hbx:=Below.after hbx hb71;replace hV:=hV.blw hb71;replace hBb:=hBb.keep hb71;replace rO:=keep hb71 rO;replace hCx:=hCx.keep hb71;replace hRx:=rdc_keepv hRx hb71;replace hVa:=hVa.blw hb71;replace hEa:=hEa.keep hb71;replace rA:=keep hb71 rA;replace hVc:=hVc.blw hb71;replace rC:=keep hb71 rC;replace rQ:=keep hb71 rQ;clear hb71;clear cS;have cQ:=l_faultyU w71 hE hEa;rw[hfl] at cQ
     go_wp2_with (first|(refine wpList_load_want rfl 41 _ rfl (gC+1) rfl 41 #[.int .i64 fl,.int .i64 fa,.int .i64 fw] (0,0) _ rQ Tryz.underlying41 rfl infoFt ?_)|fail)
     refine(cQ).mono ?_;rintro e_ w72 ⟨rfl,hb72⟩;replace hrV:=rangeS_keep2 hrV hb72 (lt_of_row rO);replace hE:=hE.keep hb72 rfl;replace hT:=Utf8Tabs_below hT hb72;replace hb:=Below.after hb hb72;replace hbx:=Below.after hbx hb72;replace hV:=hV.blw hb72;replace hBb:=hBb.keep hb72;replace rO:=keep hb72 rO;replace hCx:=hCx.keep hb72;replace hRx:=rdc_keepv hRx hb72;replace hVa:=hVa.blw hb72;replace hEa:=hEa.keep hb72;replace rA:=keep hb72 rA;replace hVc:=hVc.blw hb72;replace rC:=keep hb72 rC;replace rQ:=keep hb72 rQ;clear hb72;clear cQ
     go_wp2_with (fail)
     refine⟨⟨k+1,by omega,by go_num,hbx⟩,?_⟩
     simp[intOf];omega
    by_cases k3:kd=3
    ·subst k3
     clear k1 k2
     go_upto_region 26 with(fail)
     obtain⟨F,hF⟩:∃F,ckT utD flD tx X 1=F:=⟨_,rfl⟩;obtain⟨fl,fa,fw,hfl⟩:=flr_three F;replace hF:=hide hF;clear cK0;have hbd:Below w31.heap.size w31 w31.drew:=below_drN (Below.refl _ _) 1;replace hrV:=rangeS_keep2 hrV hbd (lt_of_row rO);replace hE:=hE.keep hbd rfl;replace hT:=Utf8Tabs_below hT hbd;replace hb:=Below.after hb hbd;replace hbx:=Below.after hbx hbd;replace hV:=hV.blw hbd;replace hBb:=hBb.keep hbd;replace rO:=keep hbd rO;replace hCx:=hCx.keep hbd;replace hRx:=rdc_keepv hRx hbd;clear hbd;refine wp_region_noPanic ?_
     refine wp_region_held (S:=fun W_:World=>W_.rangeAt gO 2 [.int .u64 (xn:Int),.slice xda xdl xdc,.slice xpa xpl xpc]) (by kernel_rfl) ?_
     change wpAnyH _ _ _ _ _ _ _ _ (World.drew _)
     generalize w31.drew=w50 at *
     refine wTy 0 ?v0_1 rfl ?y0_1 hrV ?r0_1
     case y0_1=>
      intro w_ hS_;go_simp
      try with_reducible rfl
     simp only[Act.put,ZPa,ZPc,ZPd,ZPe,ZPf];refine wTy 1 ?v1_2 rfl ?y1_2 hrV ?r1_2
     case y1_2=>
      intro w_ hS_;go_simp
      try with_reducible rfl
     simp only[Act.put,ZPa,ZPb,ZPc,ZPd,ZPe,ZPf]
     refine wTk (i:=2) (v:=.agg #[.int .u64 (xn:Int),.slice xda xdl xdc,.slice xpa xpl xpc]) rfl (yieldsIf_load_mid (by rfl) 27 _ rfl gO 2 rfl [.int .u64 (xn:Int),.slice xda xdl xdc,.slice xpa xpl xpc] _ (fun _ h=>h) Tryz.underlying27 rfl infoV) hrV ?_
     simp only[Act.put,ZPa,ZPb,ZPc,ZPd,ZPe,ZPf];refine wTy 4 ?v4_3 rfl ?y4_3 hrV ?r4_3
     case y4_3=>
      intro w_ hS_;go_simp
      try with_reducible rfl
     simp only[Act.put,ZPa,ZPb,ZPc,ZPd,ZPe,ZPf];refine wTy 5 ?v5_4 rfl ?y5_4 hrV ?r5_4
     case y5_4=>
      intro w_ hS_;go_simp
      try with_reducible rfl
     simp only[Act.put,ZPa,ZPb,ZPc,ZPd,ZPe,ZPf]
     refine wTk (i:=6) (v:=.agg #[.int .u64 (xn:Int),.slice xda xdl xdc,.slice xpa xpl xpc]) rfl (yieldsIf_load_mid (by rfl) 27 _ rfl gO 2 rfl [.int .u64 (xn:Int),.slice xda xdl xdc,.slice xpa xpl xpc] _ (fun _ h=>h) Tryz.underlying27 rfl infoV) hrV ?_
     simp only[Act.put,ZPa,ZPb,ZPc,ZPd,ZPe,ZPf];have cK:=a_CheckU _ _ X w50 hT hCx hV ok.out.2.2.2.2;rw[hF.out] at cK;unfold vrv vrw at cK;dsimp only at cK
     refine wpAnyH_one (k:=3) (fuel:=3) (by kernel_rfl) rfl (by kernel_rfl) (fun K_ hK=>?_)
     refine wp_call_ex (R:=fun v w'=>EvQ w' w50.heap.size F v∧Below w50.heap.size w50 w') (by kernel_rfl) (cK.mono (fun e w' h=>by obtain⟨ev,h1,h2,h3⟩:=h;exact⟨ev,h1,h2,h3⟩)) (fun v_ w51 hX_=>?_)
     obtain⟨hE1,hbq⟩:=hX_;replace hrV:=rangeS_keep2 hrV hbq (lt_of_row rO);replace hE:=hE.keep hbq rfl;replace hT:=Utf8Tabs_below hT hbq;replace hb:=Below.after hb hbq;replace hbx:=Below.after hbx hbq;replace hV:=hV.blw hbq;replace hBb:=hBb.keep hbq;replace rO:=keep hbq rO;replace hCx:=hCx.keep hbq;replace hRx:=rdc_keepv hRx hbq;refine hK _ _ hrV ?_;simp only[Act.put,ZPa,ZPb,ZPc,ZPd,ZPe,ZPf];clear hK hbq;clear cK;have cR:=r_CheckT hzx.out _ _ X w51 hRx hV;rw[hF.out,hfl] at cR;unfold vrv vrw at cR;dsimp only at cR
     refine wpAnyH_one (k:=7) (fuel:=2) (by kernel_rfl) rfl (by kernel_rfl) (fun K_ hK=>?_)
     refine wp_call_ex (R:=fun v w'=>v=.agg #[.int .i64 fl,.int .i64 fa,.int .i64 fw]∧Below w51.heap.size w51 w') (by kernel_rfl) (cR.mono (fun e w' h=>⟨_,h.1,rfl,h.2⟩)) (fun v_ w52 hX_=>?_)
     obtain⟨rfl,hbq⟩:=hX_;replace hrV:=rangeS_keep2 hrV hbq (lt_of_row rO);replace hE:=hE.keep hbq rfl;replace hT:=Utf8Tabs_below hT hbq;replace hb:=Below.after hb hbq;replace hbx:=Below.after hbx hbq;replace hV:=hV.blw hbq;replace hBb:=hBb.keep hbq;replace rO:=keep hbq rO;replace hCx:=hCx.keep hbq;replace hRx:=rdc_keepv hRx hbq;replace hE1:=hE1.keep hbq;refine hK _ _ hrV ?_;simp only[Act.put,ZPa,ZPb,ZPc,ZPd,ZPe,ZPf];clear hK hbq;clear cR;have cQ:=l_faultyU w52 hE hE1;rw[hfl] at cQ
     refine wpAnyH_one (k:=8) (fuel:=1) (by kernel_rfl) rfl (by kernel_rfl) (fun K_ hK=>?_)
     refine wp_call_ex (R:=fun v w'=>v=.bool true∧Below w52.heap.size w52 w') (by kernel_rfl) (cQ.mono (fun e w' h=>⟨_,h.1,rfl,h.2⟩)) (fun v_ w53 hX_=>?_)
     obtain⟨rfl,hbq⟩:=hX_;replace hrV:=rangeS_keep2 hrV hbq (lt_of_row rO);replace hE:=hE.keep hbq rfl;replace hT:=Utf8Tabs_below hT hbq;replace hb:=Below.after hb hbq;replace hbx:=Below.after hbx hbq;replace hV:=hV.blw hbq;replace hBb:=hBb.keep hbq;replace rO:=keep hbq rO;replace hCx:=hCx.keep hbq;replace hRx:=rdc_keepv hRx hbq;replace hE1:=hE1.keep hbq;refine hK _ _ hrV ?_;simp only[Act.put,ZPa,ZPb,ZPc,ZPd,ZPe,ZPf];clear hK hbq;clear cQ;refine wTy 9 ?v9_5 rfl ?y9_5 hrV ?r9_5
     case y9_5=>
      intro w_ hS_;go_simp
      try with_reducible rfl
     simp only[Act.put,ZPa,ZPb,ZPc,ZPd,ZPe,ZPf]
     refine wpAnyH_done (by kernel_rfl) ?_ _
     try refine NoPanic.normal ?_
     go_wp2_with (fail)
     refine⟨⟨k+1,by omega,by go_num,hbx⟩,?_⟩
     simp[intOf];omega
    by_cases k4:kd=4
    ·subst k4
     clear k1 k2 k3
     have cG:=a_RangeT w31 hCx
     go_wp2_with (fail)
     refine(cG).mono ?_;rintro e_ w32 ⟨rfl,hb32⟩;replace hrV:=rangeS_keep2 hrV hb32 (lt_of_row rO);replace hE:=hE.keep hb32 rfl;replace hT:=Utf8Tabs_below hT hb32;replace hb:=Below.after hb hb32;replace hbx:=Below.after hbx hb32;replace hV:=hV.blw hb32;replace hBb:=hBb.keep hb32;replace rO:=keep hb32 rO;replace hCx:=hCx.keep hb32;replace hRx:=rdc_keepv hRx hb32;clear hb32;clear cG;obtain⟨u_,hg_,hu_⟩:=hRx;have cG:=r_Range ok.out.2.2.1 w32 hg_ hu_;rw[←prS_spL] at cG;clear hg_ hu_
     go_wp2_with (fail)
     refine(cG).mono ?_;rintro e_ w33 ⟨rfl,hb33⟩;replace hrV:=rangeS_keep2 hrV hb33 (lt_of_row rO);replace hE:=hE.keep hb33 rfl;replace hT:=Utf8Tabs_below hT hb33;replace hb:=Below.after hb hb33;replace hbx:=Below.after hbx hb33;replace hV:=hV.blw hb33;replace hBb:=hBb.keep hb33;replace rO:=keep hb33 rO;replace hCx:=hCx.keep hb33;clear hb33;clear cG
     generalize prS tx=pr at *
     go_wp2_with (fail)
     refine⟨⟨k+1,by omega,by go_num,hbx⟩,?_⟩
     simp[intOf];omega
    clear hcap ok hzx
    go_wp2_with (fail)
    refine⟨⟨k+1,by omega,by go_num,hbx⟩,?_⟩
    simp[intOf];omega
  ·have hd:decide ((k:Int)<(os.length:Int))=false:=by simp;omega
   go_wp2_with (fail)
   go_ret;exact⟨rfl,hb⟩
end Go.Proofs.YtmmlkfkpblokiaaGreatDoor
namespace Go.Proofs.YtmmlkfkpblokiaaGreatDoor
open Go Go.ChangeShapes Go.WideShapes Go.ChangeAt Go.RowKit Go.Deep
theorem bSl56:Tryz.prog.bytesOf 88=56:=by kernel_rfl
theorem cSl5:Tryz.prog.cellsOf 88=5:=by kernel_rfl
theorem cI1s:Tryz.prog.cellsOf 3=1:=by kernel_rfl
theorem cU1s:Tryz.prog.cellsOf 23=1:=by kernel_rfl
theorem cSs1:Tryz.prog.cellsOf 22=1:=by kernel_rfl
theorem block_lts {w:World} {b o:Nat} {v:Value} (h:w.cell? ⟨b,o,none⟩=some v):b<w.heap.size:=by
 rcases Nat.lt_or_ge b w.heap.size with x|x
 ·exact x
 ·have:w.heap[b]? =none:=Array.getElem?_eq_none x
  simp[World.cell?,this] at h
theorem weightsAll_inS {H:Type} {P:Program} {e:TypeId}:∀{l:List (DataW H)} {d:DataW H},d∈l→∀n∈d.weights P e,n∈DataW.weightsAll P e l
 |x::r,d,h,n,hn=>by
  rw[DataW.weightsAll,List.mem_append]
  rcases List.mem_cons.1 h with rfl|h
  ·exact .inl hn
  ·exact .inr (weightsAll_inS h n hn)
theorem range_gs (PS:Nat→Slt) (n i:Nat) (h:i<n):gs ((List.range n).map PS) i=PS i:=by
 rw[gs,List.getD_eq_getElem?_getD,List.getElem?_map,List.getElem?_range h];rfl
theorem range_gvs (PS:Nat→Value) (n i:Nat) (h:i<n):gvs ((List.range n).map PS) i=PS i:=by
 rw[gvs,List.getD_eq_getElem?_getD,List.getElem?_map,List.getElem?_range h];rfl
theorem slot_of_trod {H:Type} {enc:TypeId×Value→H} {W:World} {m:Nat} {cs:List Value} {x:DataW H×List MemPlace} (h:DataW.trod enc Tryz.prog W 0 (fun _=>true) true m 88 cs=some x):
 ∃(no k:Int) (l mo:Nat) (u:Value) (n:Nat) (y:DataW H×List MemPlace),(∀sub,cs=srow (.mk no k l mo sub) u∧Sok (.mk no k l mo sub))∧DataW.trod enc Tryz.prog W 0 (fun _=>true) true n 22 [u]=some y∧SizeOf.sizeOf y.1<SizeOf.sizeOf x.1∧∀z∈y.1.weights Tryz.prog 22,z∈x.1.weights Tryz.prog 88:=by
 obtain⟨xs,m,rfl,rfl,hlen,hxl,hf⟩:=DataW.trod_struct Tryz.underlying88 h;rw[cSl5] at hlen;have g0:=hf 0 _ rfl;have g1:=hf 1 _ rfl;have g2:=hf 2 _ rfl;have g3:=hf 3 _ rfl;have g4:=hf 4 _ rfl;clear hf h
 match cs,hlen,xs,hxl,g0,g1,g2,g3,g4 with
 |[c0,c1,c2,c3,c4],_,[x0,x1,x2,x3,x4],_,g0,g1,g2,g3,g4=>
  obtain⟨K,e0,_,wK⟩:=DataW.trod_int Tryz.underlying3 g0;obtain⟨A,e1,_,wA⟩:=DataW.trod_int Tryz.underlying3 g1;obtain⟨C,e2,_,wC⟩:=DataW.trod_int Tryz.underlying23 g2;obtain⟨E,e3,_,wE⟩:=DataW.trod_int Tryz.underlying23 g3
  have q0:c0=.int .i64 K:=by
   have q:([c0,c1,c2,c3,c4].drop 0).take (Tryz.prog.cellsOf 3)=[.int .i64 K]:=e0;rw[cI1s] at q
   simpa using q
  have q1:c1=.int .i64 A:=by
   have q:([c0,c1,c2,c3,c4].drop 1).take (Tryz.prog.cellsOf 3)=[.int .i64 A]:=e1;rw[cI1s] at q
   simpa using q
  have q2:c2=.int .u64 C:=by
   have q:([c0,c1,c2,c3,c4].drop 2).take (Tryz.prog.cellsOf 23)=[.int .u64 C]:=e2;rw[cU1s] at q
   simpa using q
  have q3:c3=.int .u64 E:=by
   have q:([c0,c1,c2,c3,c4].drop 3).take (Tryz.prog.cellsOf 23)=[.int .u64 E]:=e3;rw[cU1s] at q
   simpa using q
  have q4:DataW.trod enc Tryz.prog W 0 (fun _=>true) true m 22 [c4]=some x4:=by
   have q:DataW.trod enc Tryz.prog W 0 (fun _=>true) true m 22 (([c0,c1,c2,c3,c4].drop 4).take (Tryz.prog.cellsOf 22))=some x4:=g4
   rw[cSs1] at q
   simpa using q
  have bK:=bounds_i64 wK;have bA:=bounds_i64 wA;have bC:=bounds_u64 wC;have bE:=bounds_u64 wE;obtain⟨N,rfl⟩:=Int.eq_ofNat_of_zero_le bC.1;obtain⟨M,rfl⟩:=Int.eq_ofNat_of_zero_le bE.1
  refine⟨K,A,N,M,c4,m,x4,fun sub=>⟨by rw[q0,q1,q2,q3];rfl,bK,bA,by show N<_;omega,by show M<_;omega⟩,q4,?_,fun z hz=>?_⟩
  ·simp only[List.map_cons,List.map_nil,DataW.agg.sizeOf_spec,List.cons.sizeOf_spec]
   omega
  ·simp only[DataW.weights,Tryz.underlying88]
   exact DataW.weights_mem_each (j:=4) rfl rfl z hz
theorem slo_of_size {H:Type} {enc:TypeId×Value→H} {W:World}:∀(N:Nat) {m:Nat} {v:Value} {x:DataW H×List MemPlace},SizeOf.sizeOf x.1≤N→DataW.trod enc Tryz.prog W 0 (fun _=>true) true m 22 [v]=some x→(∀n∈x.1.weights Tryz.prog 22,n≤reachBytes)→∃ts:List Slt,Slo W v ts
 |0,m,v,x,hN,_,_=>by
  exfalso
  cases h:x.1<;>rw[h] at hN<;>simp at hN
 |N+1,m,v,x,hN,hf,hs=>by
  rcases open_slice Tryz.underlying22 hf with⟨hcs,hx⟩|⟨a,len,cap,m,n,D,Pl,hcs,_,hl,hm,hmm,hx,hel⟩
  ·injection hcs with hv _
   subst hv
   exact⟨[],.mk none 0 [] [] (by simp) (by simp) (fun _=>rfl) (fun i hi=>by simp at hi) (fun i hi=>by simp at hi)⟩
  ·injection hcs with hv _
   subst hv
   subst hx;simp only[if_true] at hmm;subst hmm;rw[cSl5] at hel
   have hb:=hs ((((List.range len).map D).length+((List.range (m-len)).map fun j=>D (len+j)).length)*56) (by simp[DataW.weights,Tryz.underlying22,bSl56])
   simp only[List.length_map,List.length_range,reachBytes] at hb
   obtain⟨PS,hPS⟩:=@choose_lt (Slt×Value) ⟨(s0,undef)⟩ len (fun i f=>∃cs',W.cells? 0 (a.add (i*5)) 5=some cs'∧cs'=srow f.1 f.2∧Sok f.1∧Slo W f.2 f.1.sub) (fun i hi=>by
    obtain⟨cs',h1,h2⟩:=hel i (by omega)
    obtain⟨no,k,l,mo,u,n',y,h3,h4,h5,h6⟩:=slot_of_trod h2;have hmem:D i∈(List.range len).map D:=List.mem_map.2 ⟨i,List.mem_range.2 hi,rfl⟩;have hsz:SizeOf.sizeOf (D i)<SizeOf.sizeOf ((List.range len).map D):=List.sizeOf_lt_of_mem hmem
    obtain⟨sub,hsub⟩:=slo_of_size N (x:=y) (by
     simp only[DataW.slice.sizeOf_spec] at hN;simp only at h5
     omega) h4 (fun z hz=>hs z (by
     simp only[DataW.weights,Tryz.underlying22]
     exact List.mem_cons_of_mem _ (List.mem_append_left _ (weightsAll_inS hmem z (h6 z hz)))))
    exact⟨(.mk no k l mo sub,u),cs',h1,(h3 sub).1,(h3 sub).2,hsub⟩)
   have e:(Value.slice (some a) len m)=.slice (some a) ((List.range len).map fun i=>(PS i).1).length m:=by simp
   rw[e]
   refine⟨_,.mk (some a) m _ ((List.range len).map fun i=>(PS i).2) (by simp;omega) (by simp;exact hl) (fun e=>by cases e) (fun i hi=>?_) (fun i hi=>?_)⟩
   ·have hi':i<len:=by simpa using hi
    obtain⟨cs',h1,h2,h3,_⟩:=hPS i hi'
    obtain⟨_,hln,hc⟩:=World.cells?_some h1;obtain⟨bb,off,spot⟩:=a
    have hspot:spot=none:=by
     obtain⟨cs0,h0,_⟩:=hel 0 (by omega)
     obtain⟨_,hl0,hc0⟩:=World.cells?_some h0
     have:=hc0 0 (by omega)
     rw[List.getElem?_eq_getElem (by omega)] at this
     simpa[Addr.add] using World.cell?_spot this
    subst hspot;rw[range_gs _ len i hi',range_gvs _ len i hi']
    have hr:W.rangeAt bb (off+i*5) cs':=by
     intro j v hv
     have hj:j<5:=by have:=(List.getElem?_eq_some_iff.1 hv).1;omega
     have:=hc j hj;rw[addr_add,addr_add,hv] at this;exact this
    rw[h2] at hr;exact⟨bb,off,rfl,block_lts (hr 0 _ rfl),hr,h3⟩
   ·have hi':i<len:=by simpa using hi
    obtain⟨_,_,_,_,h4⟩:=hPS i hi'
    rw[range_gs _ len i hi',range_gvs _ len i hi'];exact h4
theorem slo_of_trod {H:Type} {enc:TypeId×Value→H} {W:World} {m:Nat} {v:Value} {x:DataW H×List MemPlace} (hf:DataW.trod enc Tryz.prog W 0 (fun _=>true) true m 22 [v]=some x) (hs:∀n∈x.1.weights Tryz.prog 22,n≤reachBytes):∃ts:List Slt,Slo W v ts:=slo_of_size _ (Nat.le_refl _) hf hs
end Go.Proofs.YtmmlkfkpblokiaaGreatDoor
namespace Go.Proofs.YtmmlkfkpblokiaaGreatDoor
open Go Go.RowKit
def rU:Go.Shelf.Ren where
 f:=fun n=>n
 t:=fun n=>if n=5 then 5 else if n=119 then 221 else if n=138 then 223 else 224
 g:=fun n=>if n=3 then 2 else 3
theorem tabs_of_reads {W : World} (h : laidMet Tryz.prog [("unicode/utf8.acceptRanges", Rows.laid_unicode_utf8_acceptRanges), ("unicode/utf8.first", Rows.laid_unicode_utf8_first)] W) : Lib.Utf8Tabs 2 3 W :=
 utf8Tabs_of_readsT (P:=Tryz.prog) (ρ:=rU) ⟨by kernel_rfl,by kernel_rfl,by kernel_rfl,by kernel_rfl⟩ ⟨by kernel_rfl,by kernel_rfl,by kernel_rfl,by kernel_rfl,by kernel_rfl,by kernel_rfl,by kernel_rfl⟩ (Lib.laidMet.reads h (.tail _ (.head _))) (Lib.laidMet.reads h (.head _))
end Go.Proofs.YtmmlkfkpblokiaaGreatDoor
