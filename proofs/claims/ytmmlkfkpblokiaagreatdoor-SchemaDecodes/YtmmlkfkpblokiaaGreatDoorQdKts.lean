import Derived.Test.YtmmlkfkpblokiaaGreatDoorQdKyc
import Derived.Shelf.Unicode.DecodeSlow
import Derived.Deep.DeepBigQuietO
import Derived.Deep.CutBlock
import Derived.Deep.DeepCutAuto
import Derived.Deep.DeepMust
import Derived.BigQuiet
import Derived.Lib.ValidLaws
namespace Go.Proofs.YtmmlkfkpblokiaaGreatDoor
set_option maxRecDepth 100000
open Go Go.RowKit Go.Sort
attribute [local go_sem] setCell_drewN alloc_drewN
theorem conv_byT {W:World} {v:Value} {bs:List Int} (h:Bys W v bs):(convert 24 9 v).run Tryz.prog W=.ok (.string (strOfNums bs)) W:=by
 obtain⟨ao,cap,rfl,_,hc,_⟩:=h
 cases ao with
 |none=>
  have:bs=[]:=by
   cases bs with
   |nil=>rfl
   |cons x xs=>obtain⟨b,off,e,_⟩:=hc 0 (by simp);cases e
  subst this;exact run_convert_bytes_nil W 24 5 Tryz.underlying24 Tryz.underlying5 _ _ 9 Tryz.underlying9
 |some ad=>
  rcases Nat.eq_zero_or_pos bs.length with e0|e0
  ·have:bs=[]:=List.eq_nil_of_length_eq_zero e0
   subst this
   obtain⟨b,off,sp⟩:=ad;rw[run_convert_bytes_string W 24 9 5 _ _ _ Tryz.underlying24 Tryz.underlying5 Tryz.underlying9]
   have:=run_bytesToString (P:=Tryz.prog) W ⟨b,off,sp⟩ 0 cap [] (by rfl)
   exact this
  ·obtain⟨b,off,e,_⟩:=hc 0 e0
   cases e
   exact run_convert_bytes_arg W 24 5 Tryz.underlying24 Tryz.underlying5 b off bs.length cap bs rfl (fun i hi=>by
    obtain⟨b',off',e,_,h⟩:=hc i hi
    cases e
    exact h) 9 Tryz.underlying9
theorem str_injT {a b:List Int} (ha:∀z∈a,0≤z∧z<256) (hb:∀z∈b,0≤z∧z<256) (h:strOfNums a=strOfNums b):a=b:=by
 have h1:=congrArg (fun x=>x.data.toList) h
 simp only[strOfNums_data] at h1
 have key:∀(a b:List Int),(∀z∈a,0≤z∧z<256)→(∀z∈b,0≤z∧z<256)→a.map (fun n=>UInt8.ofNat n.toNat)=b.map (fun n=>UInt8.ofNat n.toNat)→a=b:=by
  intro a
  induction a with
  |nil=>intro b _ _ h;cases b with
   |nil=>rfl
   |cons y ys=>simp at h
  |cons x xs ih=>intro b ha hb h;cases b with
   |nil=>simp at h
   |cons y ys=>
    simp only[List.map_cons,List.cons.injEq] at h
    have hx:=ha x (by simp)
    have hy:=hb y (by simp)
    have e:=congrArg UInt8.toNat h.1;simp only[UInt8.toNat_ofNat'] at e
    rw[Nat.mod_eq_of_lt (by omega),Nat.mod_eq_of_lt (by omega)] at e
    have exy:x=y:=by omega
    rw[exy,ih ys (fun z h=>ha z (by simp[h])) (fun z h=>hb z (by simp[h])) h.2]
 exact key a b ha hb h1
theorem bytes_of {a b:ByteArray} (h:a.toList=b.toList):a=b:=by
 rw[ByteArray.toList_eq,ByteArray.toList_eq] at h;exact Go.WideShapes.bytes_inj h
theorem wpList_val8 {P:Program} {ops:Array Oper} {Q:Exit→Act→World→Prop} {w:World} {rest:List Oper} {o:Oper} {a:Act} (hw:Region.wanted o (yielded ops a.tmps)=true) (v:Value) (he:(execOp a.eval o).run P w=.ok (.value v) w)
 (h:wpList P ops Q rest (a.put o.dst v) w):wpList P ops Q (o::rest) a w:=
 BigFrame.wpList_want hw fun _ hK=>wp_world_op _ _ he (hK _ _ h)
theorem map_inj8:∀(a b:List B),a.map bv=b.map bv→a=b
 |[],[],_=>rfl
 |[],_::_,h=>by simp at h
 |_::_,[],h=>by simp at h
 |x::a,y::b,h=>by
  rw[List.map_cons,List.map_cons] at h
  injection h with h1 h2
  rw[map_inj8 a b h2,show x=y from BitVec.eq_of_toNat_eq (by unfold bv at h1;omega)]
theorem bl_inj8 {a b:List B} (h:bl a=bl b):a=b:=by
 unfold bl at h;exact map_inj8 a b h
theorem bl_b8 (a:List B):∀z∈bl a,0≤z∧z<256:=by
 intro z hz;unfold bl at hz;obtain⟨x,_,rfl⟩:=List.mem_map.1 hz;unfold bv;have:=x.isLt;omega
theorem str_eq8 (a b:List B):((strOfNums (bl a)).toList==(strOfNums (bl b)).toList)=decide (a=b):=by
 by_cases h:a=b
 ·subst h;simp
 ·rw[decide_eq_false h]
  simp only[beq_eq_false_iff_ne,ne_eq]
  intro e;exact h (bl_inj8 (str_injT (bl_b8 a) (bl_b8 b) (bytes_of e)))
theorem vt_ext {ps qs:List VT} (hl:ps.length=qs.length) (h:∀i,i<ps.length→gvt ps i=gvt qs i):ps=qs:=by
 refine List.ext_getElem hl (fun i h1 h2=>?_)
 have:=h i h1
 rwa [gvt,gvt,List.getD_eq_getElem?_getD,List.getD_eq_getElem?_getD,List.getElem?_eq_getElem h1,List.getElem?_eq_getElem h2] at this
set_option maxRecDepth 100000 in
set_option maxHeartbeats 8000000 in
theorem a_same {W:World} {S:Nat→Prop} {x:VR} {X:VT} (h:VtM W S x X):∀(T:Nat→Prop) (y:VR) (Y:VT) (w:World),Below W.heap.size W w→VtM w T y Y→Calls Tryz.prog 19 #[.agg (vrv x),.agg (vrv y)] w fun e w'=>e=.returned (.bool (@decide (X=Y) (Classical.propDecidable _)))∧Below w.heap.size w w':=by
 induction h with
 |mk x d xs ps hn hdl hbl hd hdc hds hpl hxl hpc hpm hps hP hs ih=>
  intro T y Y w hw hy
  cases hy with
  |mk y yd ys qs hyn hydl hybl hyd hydc hyds hypl hyxl hypc hypm hyps hyP hys=>
  have hpsb:∀(b off:Nat),0<ps.length→x.pa=some ⟨b,off,none⟩→b<W.heap.size:=fun b off h0 e=>(hps _ ((lv_pos (by omega)).trans e)).2
  have hqsb:∀(b off:Nat),0<qs.length→y.pa=some ⟨b,off,none⟩→b<w.heap.size:=fun b off h0 e=>(hyps _ ((lv_pos (by omega)).trans e)).2
  clear hs hps hds hyps hyds;obtain⟨xn,xda,xdl,xdc,xpa,xpl,xpc⟩:=x;obtain⟨yn,yda,ydl,ydc,ypa,ypl,ypc⟩:=y;simp only at hn hdl hbl hd hdc hpl hpc hP hpsb hyn hydl hybl hyd hydc hypl hypc hyP hqsb;subst hpl hypl hdl hydl;unfold vrv vrw
  have hb:Below w.heap.size w ((w.alloc (.cells #[.int .u64 (xn:Int),.slice xda d.length xdc,.slice xpa ps.length xpc] 27)).alloc (.cells #[.int .u64 (yn:Int),.slice yda yd.length ydc,.slice ypa qs.length ypc] 27)):=((Below.refl _ _).alloc (Nat.le_refl _) _).alloc (by simp) _
  have r0:=hp2_0 w (.cells #[.int .u64 (xn:Int),.slice xda d.length xdc,.slice xpa ps.length xpc] 27) (.cells #[.int .u64 (yn:Int),.slice yda yd.length ydc,.slice ypa qs.length ypc] 27);have r1:=hp2_1 w (.cells #[.int .u64 (xn:Int),.slice xda d.length xdc,.slice xpa ps.length xpc] 27) (.cells #[.int .u64 (yn:Int),.slice yda yd.length ydc,.slice ypa qs.length ypc] 27);have bX:=((hd.keep hw).keep hb).1;have bY:=(hyd.keep hb).1;obtain⟨R,hR⟩:∃R,@decide (VT.mk xn d ps=VT.mk yn yd qs) (Classical.propDecidable _)=R:=⟨_,rfl⟩;rw[hR];have hE:=str_eq8 d yd;have kX:=conv_byT bX;have kY:=conv_byT bY;have HP:=hide hP;have HQ:=hide hyP;have HI:=hide ih;have HY:=hide hys;replace hR:=hide hR;clear hP hyP ih hys hd hyd
  go_enter Tryz.func19,Tryz.ntmps19
  go_upto_region 1 with(fail)
  generalize ((w.alloc (.cells #[.int .u64 (xn:Int),.slice xda d.length xdc,.slice xpa ps.length xpc] 27)).alloc (.cells #[.int .u64 (yn:Int),.slice yda yd.length ydc,.slice ypa qs.length ypc] 27))=w2 at *
  have c0:=cell_of_row _ _ 0 _ _ _ r0;have c1:=cell_of_row _ _ 1 _ _ _ r0;have c2:=cell_of_row _ _ 2 _ _ _ r0;have e0:=cell_of_row _ _ 0 _ _ _ r1;have e1:=cell_of_row _ _ 1 _ _ _ r1;have e2:=cell_of_row _ _ 2 _ _ _ r1
  by_cases hnn:xn=yn
  ·subst hnn
   by_cases hdd:d=yd
   ·subst hdd
    rw[decide_eq_true rfl] at hE
    by_cases hll:ps.length=qs.length
    ·rw[←hll] at e2 r1
     go_wp2_with (fail)
     go_loopw [5] (fun i wr=>∃k:Nat,k≤ps.length∧i=.int .i64 k∧(∀j,j<k→gvt ps j=gvt qs j)∧Below w2.heap.size w2 wr) (fun i _=>ps.length-(intOf i).toNat)
     case atStart=>exact⟨0,by omega,rfl,fun j hj=>by omega,Below.refl _ _⟩
     case round=>
      obtain⟨k,hk,rfl,hpre,hby⟩:=hrel;have rx:=keep hby r0;have ry:=keep hby r1;have cx:=cell_of_row _ _ 2 _ _ _ rx;clear c0 c1 c2 e0 e1 e2 kX kY bX bY hE;have hWr:Below W.heap.size W wr:=hw.trans ((Below.after hb hby).mono hw.size)
      by_cases hlt:k<ps.length
      ·have hd2:decide ((k:Int)<(ps.length:Int))=true:=by simp;omega
       have hi9:0≤(k:Int)∧(k:Int)<(ps.length:Int):=by omega
       obtain⟨b,off,hxe,hra⟩:=HP.out k hlt
       obtain⟨b2,off2,hye,hrb⟩:=HQ.out k (by omega)
       have hbl:=hpsb b off (by omega) hxe
       have hbl2:=hqsb b2 off2 (by omega) hye
       subst hxe hye;have hpw:=rangeS_keep2 hra hWr hbl;have hqw:=rangeS_keep2 hrb (Below.after hb hby) hbl2;have hbd:Below wr.heap.size wr wr.drew:=below_drN (Below.refl _ _) 1;have hszw:=hw.size;have hszr:=(Below.after hb hby).size
       have cI:=HI.out k hlt T (gx ys k) (gvt qs k) wr.drew (hWr.trans (hbd.mono hWr.size)) (((HY.out k (by omega)).blw (Below.after hb hby)).blw hbd)
       obtain⟨Bq,hBq⟩:∃Bq,@decide (gvt ps k=gvt qs k) (Classical.propDecidable _)=Bq:=⟨_,rfl⟩;rw[hBq] at cI
       generalize gx xs k=zx at *
       generalize gx ys k=zy at *
       obtain⟨an,ada,adl,adc,apa,apl,apc⟩:=zx;obtain⟨cn,cda,cdl,cdc,cpa,cpl,cpc⟩:=zy;unfold vrv vrw at hpw hqw cI
       have hS0:(fun W_:World=>Bx W_ w.heap.size #[.int .u64 (xn:Int),.slice xda d.length xdc,.slice (some ⟨b,off,none⟩) ps.length xpc]∧Bx W_ (w.heap.size+1) #[.int .u64 (xn:Int),.slice yda d.length ydc,.slice (some ⟨b2,off2,none⟩) ps.length ypc]∧W_.rangeAt b (off+k*3) [.int .u64 (an:Int),.slice ada adl adc,.slice apa apl apc]∧W_.rangeAt b2 (off2+k*3) [.int .u64 (cn:Int),.slice cda cdl cdc,.slice cpa cpl cpc]) wr.drew:=⟨⟨_,keep hbd rx⟩,⟨_,keep hbd ry⟩,rangeS_keep2 hpw hbd (by omega),rangeS_keep2 hqw hbd (by omega)⟩
       have hbr:=hby;replace hby:=Below.after hby hbd;clear HP HQ HI HY hra hrb hpw hqw rx ry hbr hWr;replace hBq:=hide hBq
       go_upto_region 6 with(fail)
       clear cx;refine wp_region_noPanic ?_
       refine wp_region_held (S:=fun W_:World=>Bx W_ w.heap.size #[.int .u64 (xn:Int),.slice xda d.length xdc,.slice (some ⟨b,off,none⟩) ps.length xpc]∧Bx W_ (w.heap.size+1) #[.int .u64 (xn:Int),.slice yda d.length ydc,.slice (some ⟨b2,off2,none⟩) ps.length ypc]∧W_.rangeAt b (off+k*3) [.int .u64 (an:Int),.slice ada adl adc,.slice apa apl apc]∧W_.rangeAt b2 (off2+k*3) [.int .u64 (cn:Int),.slice cda cdl cdc,.slice cpa cpl cpc]) (by kernel_rfl) ?_
       change wpAnyH _ _ _ _ _ _ _ _ (World.drew _)
       have hszd:=hbd.size
       generalize wr.drew=y1 at *
       refine wpAnyH_take (i:=0) (v:=?va) rfl (by kernel_rfl) (by kernel_rfl) (by kernel_rfl) (fun _ _ _ h=>h) (Or.inl ⟨by rfl,?y1⟩) hS0 ?r1
       case y1=>
        intro w_ hS_
        skip
        go_simp
        try with_reducible rfl
       simp only[Act.put,List.getElem_toArray,List.getElem_cons_zero,List.setIfInBounds_toArray,List.set_cons_succ,List.set_cons_zero]
       refine wpAnyH_take (i:=1) (v:=.slice (some ⟨b,off,none⟩) ps.length xpc) rfl (by kernel_rfl) (by kernel_rfl) (by kernel_rfl) (fun _ _ _ h=>h) (Or.inl ⟨by rfl,?y2⟩) hS0 ?r2
       case y2=>
        intro w_ hS_;obtain⟨_,h_⟩:=hS_.1;have c_:=cell_of_row _ _ 2 _ _ _ h_;go_simp
        try with_reducible rfl
       simp only[Act.put,List.getElem_toArray,List.getElem_cons_succ,List.getElem_cons_zero,List.setIfInBounds_toArray,List.set_cons_succ,List.set_cons_zero]
       refine wpAnyH_take (i:=2) (v:=?vb) rfl (by kernel_rfl) (by kernel_rfl) (by kernel_rfl) (fun _ _ _ h=>h) (Or.inl ⟨by rfl,?y3⟩) hS0 ?r3
       case y3=>
        intro w_ hS_
        skip
        go_simp
        try with_reducible rfl
       simp only[Act.put,List.getElem_toArray,List.getElem_cons_succ,List.getElem_cons_zero,List.setIfInBounds_toArray,List.set_cons_succ,List.set_cons_zero]
       refine wpAnyH_take (i:=3) (v:=.pointer (some ⟨b,off+k*3,none⟩)) rfl (by kernel_rfl) (by kernel_rfl) (by kernel_rfl) (fun _ _ _ h=>h) (Or.inl ⟨by rfl,?y4⟩) hS0 ?r4
       case y4=>
        intro w_ hS_
        skip
        go_simp
        try with_reducible rfl
       simp only[Act.put,List.getElem_toArray,List.getElem_cons_succ,List.getElem_cons_zero,List.setIfInBounds_toArray,List.set_cons_succ,List.set_cons_zero]
       refine wpAnyH_take (i:=4) (v:=.agg #[.int .u64 (an:Int),.slice ada adl adc,.slice apa apl apc]) rfl (by kernel_rfl) (by kernel_rfl) (by kernel_rfl) (fun _ _ _ h=>h) (yieldsIf_load_mid (by rfl) 27 _ rfl b (off+k*3) rfl [.int .u64 (an:Int),.slice ada adl adc,.slice apa apl apc] _ (fun _ h=>h.2.2.1) Tryz.underlying27 rfl infoV) hS0 ?_
       simp only[Act.put,List.getElem_toArray,List.getElem_cons_succ,List.getElem_cons_zero,List.setIfInBounds_toArray,List.set_cons_succ,List.set_cons_zero]
       refine wpAnyH_take (i:=5) (v:=?vc) rfl (by kernel_rfl) (by kernel_rfl) (by kernel_rfl) (fun _ _ _ h=>h) (Or.inl ⟨by rfl,?y5⟩) hS0 ?r5
       case y5=>
        intro w_ hS_
        skip
        go_simp
        try with_reducible rfl
       simp only[Act.put,List.getElem_toArray,List.getElem_cons_succ,List.getElem_cons_zero,List.setIfInBounds_toArray,List.set_cons_succ,List.set_cons_zero]
       refine wpAnyH_take (i:=6) (v:=.slice (some ⟨b2,off2,none⟩) ps.length ypc) rfl (by kernel_rfl) (by kernel_rfl) (by kernel_rfl) (fun _ _ _ h=>h) (Or.inl ⟨by rfl,?y6⟩) hS0 ?r6
       case y6=>
        intro w_ hS_;obtain⟨_,h_⟩:=hS_.2.1;have c_:=cell_of_row _ _ 2 _ _ _ h_;go_simp
        try with_reducible rfl
       simp only[Act.put,List.getElem_toArray,List.getElem_cons_succ,List.getElem_cons_zero,List.setIfInBounds_toArray,List.set_cons_succ,List.set_cons_zero]
       refine wpAnyH_take (i:=7) (v:=?vd) rfl (by kernel_rfl) (by kernel_rfl) (by kernel_rfl) (fun _ _ _ h=>h) (Or.inl ⟨by rfl,?y7⟩) hS0 ?r7
       case y7=>
        intro w_ hS_
        skip
        go_simp
        try with_reducible rfl
       simp only[Act.put,List.getElem_toArray,List.getElem_cons_succ,List.getElem_cons_zero,List.setIfInBounds_toArray,List.set_cons_succ,List.set_cons_zero]
       refine wpAnyH_take (i:=8) (v:=.pointer (some ⟨b2,off2+k*3,none⟩)) rfl (by kernel_rfl) (by kernel_rfl) (by kernel_rfl) (fun _ _ _ h=>h) (Or.inl ⟨by rfl,?y8⟩) hS0 ?r8
       case y8=>
        intro w_ hS_
        skip
        go_simp
        try with_reducible rfl
       simp only[Act.put,List.getElem_toArray,List.getElem_cons_succ,List.getElem_cons_zero,List.setIfInBounds_toArray,List.set_cons_succ,List.set_cons_zero]
       refine wpAnyH_take (i:=9) (v:=.agg #[.int .u64 (cn:Int),.slice cda cdl cdc,.slice cpa cpl cpc]) rfl (by kernel_rfl) (by kernel_rfl) (by kernel_rfl) (fun _ _ _ h=>h) (yieldsIf_load_mid (by rfl) 27 _ rfl b2 (off2+k*3) rfl [.int .u64 (cn:Int),.slice cda cdl cdc,.slice cpa cpl cpc] _ (fun _ h=>h.2.2.2) Tryz.underlying27 rfl infoV) hS0 ?_
       simp only[Act.put,List.getElem_toArray,List.getElem_cons_succ,List.getElem_cons_zero,List.setIfInBounds_toArray,List.set_cons_succ,List.set_cons_zero]
       refine wpAnyH_one (k:=10) (fuel:=1) (by kernel_rfl) rfl (by kernel_rfl) (fun K_ hK=>?_)
       refine wp_call_ex (R:=fun u w'=>u=.bool Bq∧Below y1.heap.size y1 w') (by kernel_rfl) (cI.mono fun e w' h=>⟨_,h.1,rfl,h.2⟩) (fun u y2 hX_=>?_)
       obtain⟨rfl,hb2⟩:=hX_
       replace hS0:(fun W_:World=>Bx W_ w.heap.size #[.int .u64 (xn:Int),.slice xda d.length xdc,.slice (some ⟨b,off,none⟩) ps.length xpc]∧Bx W_ (w.heap.size+1) #[.int .u64 (xn:Int),.slice yda d.length ydc,.slice (some ⟨b2,off2,none⟩) ps.length ypc]∧W_.rangeAt b (off+k*3) [.int .u64 (an:Int),.slice ada adl adc,.slice apa apl apc]∧W_.rangeAt b2 (off2+k*3) [.int .u64 (cn:Int),.slice cda cdl cdc,.slice cpa cpl cpc]) y2:=⟨hS0.1.keep hb2,hS0.2.1.keep hb2,rangeS_keep2 hS0.2.2.1 hb2 (by omega),rangeS_keep2 hS0.2.2.2 hb2 (by omega)⟩
       replace hby:=Below.after hby hb2;refine hK _ _ hS0 ?_;simp only[Act.put,List.getElem_toArray,List.getElem_cons_succ,List.getElem_cons_zero,List.setIfInBounds_toArray,List.set_cons_succ,List.set_cons_zero];clear hK hb2 cI
       refine wpAnyH_take (i:=11) (v:=.bool (!Bq)) rfl (by kernel_rfl) (by kernel_rfl) (by kernel_rfl) (fun _ _ _ h=>h) (Or.inl ⟨by rfl,?y9⟩) hS0 ?r9
       case y9=>
        intro w_ hS_
        skip
        go_simp
        try with_reducible rfl
       simp only[Act.put,List.getElem_toArray,List.getElem_cons_succ,List.getElem_cons_zero,List.setIfInBounds_toArray,List.set_cons_succ,List.set_cons_zero]
       refine wpAnyH_done (by kernel_rfl) ?_ _
       refine NoPanic.normal ?_
       cases Bq with
       |true=>
        have he:gvt ps k=gvt qs k:=by
         have:=hBq.out;exact @of_decide_eq_true _ (Classical.propDecidable _) this
        clear hS0 hBq
        go_wp2_with (fail)
        refine⟨⟨k+1,by omega,by go_num,fun j hj=>by
         rcases Nat.lt_or_ge j k with q|q
         ·exact hpre j q
         ·obtain rfl:j=k:=by omega
          exact he,hby⟩,?_⟩
        simp[intOf];omega
       |false=>
        have he:¬gvt ps k=gvt qs k:=by
         have:=hBq.out;exact @of_decide_eq_false _ (Classical.propDecidable _) this
        have eR:R=false:=by
         rw[←hR.out]
         exact @decide_eq_false _ (Classical.propDecidable _) (fun e=>by injection e with _ _ e3;exact he (by rw[e3]))
        have hfin:=Below.after hb hby;replace eR:=hide eR;clear hS0 hBq hR he
        go_wp2_with (fail)
        go_ret
        exact⟨by rw[eR.out];rfl,hfin⟩
      ·have hd2:decide ((k:Int)<(ps.length:Int))=false:=by simp;omega
       have eR:R=true:=by
        rw[←hR.out]
        exact @decide_eq_true _ (Classical.propDecidable _) (by rw[vt_ext hll (fun i hi=>hpre i (by omega))])
       have hfin:=Below.after hb hby;replace eR:=hide eR;clear HP HQ HI HY hR rx ry
       go_wp2_with (fail)
       go_ret
       exact⟨by rw[eR.out];rfl,hfin⟩
    ·have hlf:((ps.length:Int)==(qs.length:Int))=false:=by simp;omega
     have hlf2:¬(ps.length:Int)=(qs.length:Int):=by omega
     have eR:R=false:=by
      rw[←hR.out]
      exact @decide_eq_false _ (Classical.propDecidable _) (fun e=>by injection e with _ _ e3;exact hll (by rw[e3]))
     replace eR:=hide eR;clear HP HQ HI HY hR
     go_wp2_with (fail)
     go_ret
     exact⟨by rw[eR.out];rfl,hb⟩
   ·rw[decide_eq_false hdd] at hE
    have eR:R=false:=by
     rw[←hR.out]
     exact @decide_eq_false _ (Classical.propDecidable _) (fun e=>by injection e with _ e2 _;exact hdd e2)
    replace eR:=hide eR;clear HP HQ HI HY hR
    go_wp2_with (fail)
    go_ret
    exact⟨by rw[eR.out];rfl,hb⟩
  ·have hnf:((xn:Int)==(yn:Int))=false:=by simp;omega
   have hnf2:¬(xn:Int)=(yn:Int):=by omega
   have eR:R=false:=by
    rw[←hR.out]
    exact @decide_eq_false _ (Classical.propDecidable _) (fun e=>by injection e with e1 _ _;exact hnn e1)
   replace eR:=hide eR;clear HP HQ HI HY hR
   go_wp2_with (fail)
   go_ret
   exact⟨by rw[eR.out];rfl,hb⟩
end Go.Proofs.YtmmlkfkpblokiaaGreatDoor
namespace Go.Proofs.YtmmlkfkpblokiaaGreatDoor
set_option maxRecDepth 100000
open Go Go.RowKit Go.Sort
attribute [local go_sem] setCell_drewN alloc_drewN
def Asc8 (d:List B) (k:Nat):Prop:=∀b∈(u8l d).take k,b.toNat<128
theorem asc_skip {d:List B} {k:Nat} (h:Asc8 d k):utD (d.drop k)=utD d:=by
 unfold utD u8l;rw[List.map_drop];exact(Lib.validD_ascii k _ h).symm
theorem asc_add8 {d:List B} {a b:Nat} (ha:Asc8 d a) (hb:Asc8 (d.drop a) b):Asc8 d (a+b):=by
 intro x hx;rw[List.take_add] at hx
 rcases List.mem_append.1 hx with h|h
 ·exact ha x h
 ·refine hb x ?_
  unfold u8l at h⊢
  rw[List.map_drop];exact h
theorem asc_one8 {b:B} {r:List B} (h:b.toNat<128):Asc8 (b::r) 1:=by
 intro x hx
 have:x=UInt8.ofBitVec b:=by simpa[u8l] using hx
 rw[this];exact h
theorem word_of {W:World} {a:Option Addr} {n c:Nat} {d:List B} (hB:BysB W (.slice a n c) d) (h8:8≤d.length):∃A:Nat,A<18446744073709551616∧(A&&&9259542123273814144=0↔Asc8 d 8)∧
 ∀V,Below W.heap.size W V→Calls Tryz.prog 139 #[.slice a n c] V fun e w'=>e=.returned (.int .u64 (A:Int))∧∃q,w'=V.drewN q:=by
 obtain⟨b,off,rfl,hn,hb,hcell⟩:=bys_cell hB (by omega)
 match d,h8 with
 |b0::b1::b2::b3::b4::b5::b6::b7::r,_=>
  have l0:=b0.isLt;have l1:=b1.isLt;have l2:=b2.isLt;have l3:=b3.isLt;have l4:=b4.isLt;have l5:=b5.isLt;have l6:=b6.isLt;have l7:=b7.isLt
  refine⟨b0.toNat+b1.toNat*256+b2.toNat*65536+b3.toNat*16777216+b4.toNat*4294967296+b5.toNat*1099511627776+b6.toNat*281474976710656+b7.toNat*72057594037927936,by omega,?_,fun V hV=>?_⟩
  ·have hm:=Lib.leNat_mask [UInt8.ofBitVec b0,UInt8.ofBitVec b1,UInt8.ofBitVec b2,UInt8.ofBitVec b3,UInt8.ofBitVec b4,UInt8.ofBitVec b5,UInt8.ofBitVec b6,UInt8.ofBitVec b7]
   have e1:Lib.leNat [UInt8.ofBitVec b0,UInt8.ofBitVec b1,UInt8.ofBitVec b2,UInt8.ofBitVec b3,UInt8.ofBitVec b4,UInt8.ofBitVec b5,UInt8.ofBitVec b6,UInt8.ofBitVec b7]=b0.toNat+b1.toNat*256+b2.toNat*65536+b3.toNat*16777216+b4.toNat*4294967296+b5.toNat*1099511627776+b6.toNat*281474976710656+b7.toNat*72057594037927936:=by
    simp only[Lib.leNat]
    show b0.toNat+256*(b1.toNat+256*(b2.toNat+256*(b3.toNat+256*(b4.toNat+256*(b5.toNat+256*(b6.toNat+256*(b7.toNat+256*0)))))))=_
    omega
   rw[e1] at hm
   rw[show Lib.maskN [UInt8.ofBitVec b0,UInt8.ofBitVec b1,UInt8.ofBitVec b2,UInt8.ofBitVec b3,UInt8.ofBitVec b4,UInt8.ofBitVec b5,UInt8.ofBitVec b6,UInt8.ofBitVec b7].length=9259542123273814144 from Lib.maskN8] at hm
   rw[hm];exact Iff.rfl
  ·have hc:=fun j hj=>(hV.cell (p:=⟨b,off+j,none⟩) hb).trans (hcell j hj)
   exact a_word8 b0.toNat b1.toNat b2.toNat b3.toNat b4.toNat b5.toNat b6.toNat b7.toNat ⟨by omega,by omega,by omega,by omega,by omega,by omega,by omega,by omega⟩ b off n c V (by rw[hn];simp) ⟨hc 0 (by simp),hc 1 (by simp),hc 2 (by simp),hc 3 (by simp),hc 4 (by simp),hc 5 (by simp),hc 6 (by simp),hc 7 (by simp)⟩
end Go.Proofs.YtmmlkfkpblokiaaGreatDoor
namespace Go.Proofs.YtmmlkfkpblokiaaGreatDoor
set_option maxRecDepth 100000
open Go Go.RowKit Go.Sort
attribute [local go_sem] setCell_drewN alloc_drewN
def Pv (W:World) (v:Value) (d:List B):Prop:=∃a,v=.slice a d.length d.length∧BysB W v d
theorem Pv.keep {W V:World} {v:Value} {d:List B} (h:Pv W v d) (hb:Below W.heap.size W V):Pv V v d:=by
 obtain⟨a,e,hB⟩:=h;exact⟨a,e,hB.keep hb⟩
def dr8 (a:Option Addr) (n k:Nat):Option Addr:=if n=k then a else a.map (·.add (k*1))
theorem bys_drop {W:World} {a:Option Addr} {d:List B} {n k m:Nat} (h:BysB W (.slice a n n) d) (hn:n=d.length) (hk:k+m=n):BysB W (.slice (dr8 a n k) m m) (d.drop k)∧m=(d.drop k).length:=by
 subst hn
 have:=bysB_mid h (show k≤d.length by omega) (Nat.le_refl _) (Nat.le_refl _)
 rw[List.take_of_length_le (by rw[List.length_drop];omega)] at this
 obtain rfl:m=d.length-k:=by omega
 exact⟨this,by rw[List.length_drop]⟩
theorem bys_full {W:World} {a:Option Addr} {c:Nat} {d:List B} (h:BysB W (.slice a d.length c) d):BysB W (.slice a d.length d.length) d:=by
 obtain⟨⟨ao,cap,e,hl,hc,hz⟩,h2,_⟩:=h
 injection e with e1 e2 e3
 subst e1
 refine⟨⟨a,d.length,by rw[bl_len],hl,hc,hz⟩,h2,fun a l c q hn=>?_⟩
 injection q with q1 q2 q3
 subst q1;subst hn
 rcases Nat.eq_zero_or_pos d.length with h0|h0
 ·omega
 ·obtain⟨b,off,ea,_⟩:=hc 0 (by rw[bl_len];exact h0)
  cases ea
theorem u8_get (d:List B) (j:Nat):((u8l d).getD j 0).toNat=(gb d j).toNat:=by
 unfold u8l gb;simp only[List.getD_eq_getElem?_getD,List.getElem?_map]
 cases d[j]? <;>rfl
theorem asc_first {d:List B} (h0:0<d.length) (h:(gb d 0).toNat<128):Asc8 d 1:=by
 match d,h0 with
 |b::r,_=>exact asc_one8 h
theorem u8_len (d:List B):(u8l d).length=d.length:=by unfold u8l;exact List.length_map _
theorem utD_lead {d:List B} {R:Bool} (hR:utD d=R) (h0:0<d.length) {x0 x1 x2 x3 X:Nat} (e0:(gb d 0).toNat=x0) (e1:(gb d 1).toNat=x1) (e2:(gb d 2).toNat=x2) (e3:(gb d 3).toNat=x3) (eX:Lib.firstT x0=X) (h:128≤x0):
 R=match Lib.checkN d.length x1 x2 x3 (X%8) (Lib.accLo (X/16)) (Lib.accHi (X/16)) with
  |none=>false
  |some k=>utD (d.drop k):=by
 have:=Lib.validD_lead (u8l d) (fun e=>by rw[←u8_len,e] at h0;simp at h0) (by rw[u8_get,e0];exact h)
 rw[u8_get,u8_get,u8_get,u8_get,e0,e1,e2,e3,eX,u8_len] at this;rw[←hR];unfold utD;rw[this]
 cases Lib.checkN d.length x1 x2 x3 (X%8) (Lib.accLo (X/16)) (Lib.accHi (X/16)) with
 |none=>rfl
 |some k=>
  show Lib.validD _=Lib.validD _
  unfold u8l;rw[List.map_drop]
set_option maxRecDepth 100000 in
theorem and7b:∀X:Fin 256,bits .and .u8 ((X.val:Nat):Int) 7=((X.val%8:Nat):Int):=by decide
theorem below_drewN8 {B:Nat} {a w:World} (h:Below B a w):∀q,Below B a (w.drewN q)
 |0=>h
 |q+1=>(below_drewN8 h q).drew
end Go.Proofs.YtmmlkfkpblokiaaGreatDoor
