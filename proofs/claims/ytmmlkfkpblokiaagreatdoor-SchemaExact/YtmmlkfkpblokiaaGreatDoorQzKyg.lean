import Derived.Test.YtmmlkfkpblokiaaGreatDoorQzKye
set_option maxRecDepth 100000
set_option maxHeartbeats 16000000
namespace Go.Proofs.YtmmlkfkpblokiaaGreatDoor
open Go Go.RowKit Go.Sort
attribute [local go_sem] setCell_drewN alloc_drewN
theorem gd_subs {t:Slt} (hf:sfit t=true) (h:nst t→gd t.sub):gd t.sub:=by
 by_cases hk:nst t
 ·exact h hk
 ·have:t.sub=[]:=by
   refine List.eq_nil_of_length_eq_zero ?_
   have h8:¬t.kind=8:=fun e=>hk (.inl e)
   have h9:¬t.kind=9:=fun e=>hk (.inr e)
   unfold sfit fitN fitB at hf
   by_cases q:(((t.sub.length:Nat):Int)==0)=true
   ·have:=eq_of_beq q
    omega
   ·rw[Bool.not_eq_true] at q
    rw[q] at hf
    exfalso
    revert hf
    split<;>simp_all
  rw[this];rw[gd];trivial
theorem r_partN {t:Slt} {so:Option Addr} {sn sc:Nat} (hf:sfit t=true) (S:Nat→Prop) (x:VR) (X:VT) (deep:Int) (hd0:0≤deep) (hd1:deep+1≤9223372036854775807) (w:World) (hX:VtM w S x X)
 (hck:∀(y:VR) (Y:VT) (V:World),Below w.heap.size w V→VtM w S y Y→Calls Tryz.prog 34 #[.slice so sn sc,.agg (vrv y),.int .i64 (deep+1)] V fun e w'=>e=.returned (.agg (flr (ckT utD flD t.sub Y (deep+1))))∧Below V.heap.size V w'):
 Calls Tryz.prog 52 #[.agg (slr t (.slice so sn sc)),.agg (vrv x),.int .i64 deep] w fun e w'=>e=.returned (.agg (flr (slT utD flD t X deep)))∧Below w.heap.size w w':=by
 obtain⟨FO,hF⟩:∃FO,slT utD flD t X deep=FO:=⟨_,rfl⟩;rw[hF]
 have cP:=hide (fun h8 V hV=>r_plainT (t:=t) h8 hf so sn sc hX V hV)
 have cM:=hide (fun V hV=>hck x X V hV hX)
 obtain⟨e1,e2,e3,e4,e5⟩:=hX.num_eq;obtain⟨xs,hP⟩:=hX.split;have hpl:x.pl=X.parts.length:=e5;clear e1 e2 e3 e4 e5;obtain⟨n,da,dl,dc,pa,pl,pc⟩:=x;replace hpl:Hid (pl=X.parts.length):=hide hpl;replace hP:PtM w S (.slice pa pl pc) xs X.parts:=hP
 unfold slr vrv vrw at *
 have hs8:t.kind=8→slT utD flD t X deep=ckT utD flD t.sub X (deep+1):=fun h=>slT_msg utD flD h X deep
 have hs9:=fun h=>slT_pl9 (t:=t) h X deep
 rw[hF] at hs8 hs9;clear hF
 generalize hno:t.no=no at *
 generalize hkd:t.kind=kd at *
 generalize (t.least:Int)=l at *
 generalize (t.most:Int)=mo at *
 have hb:Below w.heap.size w (((w.alloc (.cells #[.int .i64 no,.int .i64 kd,.int .u64 l,.int .u64 mo,.slice so sn sc] 88)).alloc (.cells #[.int .u64 (n:Int),.slice da dl dc,.slice pa pl pc] 27)).alloc (.cells #[.int .i64 0,.int .i64 0,.int .i64 0] 41)):=xb3 w _ _ _;have r0:=xp3_0 w (.cells #[.int .i64 no,.int .i64 kd,.int .u64 l,.int .u64 mo,.slice so sn sc] 88) (.cells #[.int .u64 (n:Int),.slice da dl dc,.slice pa pl pc] 27) (.cells #[.int .i64 0,.int .i64 0,.int .i64 0] 41);have r1:=xp3_1 w (.cells #[.int .i64 no,.int .i64 kd,.int .u64 l,.int .u64 mo,.slice so sn sc] 88) (.cells #[.int .u64 (n:Int),.slice da dl dc,.slice pa pl pc] 27) (.cells #[.int .i64 0,.int .i64 0,.int .i64 0] 41);have r2:=xp3_2 w (.cells #[.int .i64 no,.int .i64 kd,.int .u64 l,.int .u64 mo,.slice so sn sc] 88) (.cells #[.int .u64 (n:Int),.slice da dl dc,.slice pa pl pc] 27) (.cells #[.int .i64 0,.int .i64 0,.int .i64 0] 41)
 have hwr:IntKind.i64.wrap (deep+1)=deep+1:=by rw[IntKind.wrap_i64];omega
 by_cases h8:kd=8
 ·have hF:=hide (hs8 h8)
  subst h8
  clear hs8 hs9 cP;obtain⟨G,hG⟩:∃G,ckT utD flD t.sub X (deep+1)=G:=⟨_,rfl⟩;have cG:=cM.out;rw[hG] at cG hF;replace cG:=hide cG;clear cM hck hP hG
  go_enter Tryz.func52,Tryz.ntmps52
  go_wp2_with (first|(refine wpList_load_want rfl 27 _ rfl (w.heap.size+1) rfl 27 _ (0,0) _ r1 Tryz.underlying27 rfl infoV ?_)|fail)
  refine(cG.out _ hb).mono ?_;rintro e_ w1 ⟨rfl,hb1⟩;clear cG;replace r2:=keep hb1 r2;replace hb1:=Below.after hb hb1;have hsz:=lt_of_row r2;clear hb r0 r1
  cases G with
  |none=>
   have hone:(#[Value.int .i64 0,.int .i64 0,.int .i64 0]:Array Value).all (·.oneCell')=true:=by simp[Value.oneCell']
   have r3:=setRow_heap w1 (w.heap.size+1+1) _ #[.int .i64 0,.int .i64 0,.int .i64 0] _ _ r2
   have hb3:=below_setRow (g:=w.heap.size+1+1) hb1 (by omega) #[.int .i64 0,.int .i64 0,.int .i64 0]
   have A1:=hide r3;have A2:=hide hb3;clear r3 hb3
   go_wp2_with (first|(refine wpList_store_row rfl 41 _ _ rfl (w.heap.size+1+1) #[.int .i64 0,.int .i64 0,.int .i64 0] rfl rfl 41 _ r2 infoFt rfl hone ?_)|fail)
   exact bodyPost_ret (v:=.agg #[.int .i64 0,.int .i64 0,.int .i64 0]) (results_cell_row Tryz.results52 _ _ (w.heap.size+1+1) _ _ _ _ rfl A1.out Tryz.underlying41 rfl infoFt) rfl ⟨by rw[hF.out];rfl,A2.out⟩
  |some f=>
   have hone:(#[Value.int .i64 f.line,.int .i64 f.at_,.int .i64 f.why]:Array Value).all (·.oneCell')=true:=by simp[Value.oneCell']
   have r3:=setRow_heap w1 (w.heap.size+1+1) _ #[.int .i64 f.line,.int .i64 f.at_,.int .i64 f.why] _ _ r2
   have hb3:=below_setRow (g:=w.heap.size+1+1) hb1 (by omega) #[.int .i64 f.line,.int .i64 f.at_,.int .i64 f.why]
   have A1:=hide r3;have A2:=hide hb3;clear r3 hb3
   go_wp2_with (first|(refine wpList_store_row rfl 41 _ _ rfl (w.heap.size+1+1) #[.int .i64 f.line,.int .i64 f.at_,.int .i64 f.why] rfl rfl 41 _ r2 infoFt rfl hone ?_)|fail)
   exact bodyPost_ret (v:=.agg #[.int .i64 f.line,.int .i64 f.at_,.int .i64 f.why]) (results_cell_row Tryz.results52 _ _ (w.heap.size+1+1) _ _ _ _ rfl A1.out Tryz.underlying41 rfl infoFt) rfl ⟨by rw[hF.out];rfl,A2.out⟩
 replace hs9:=hs9 h8
 have b8:(kd==8)=false:=by simpa using h8
 have cE:=cP.out h8;clear cP cM hs8
 generalize plT t X=E at *
 replace hs9:=hide hs9;replace cE:=hide cE
 go_enter Tryz.func52,Tryz.ntmps52
 go_wp2_with (first|(refine wpList_load_want rfl 88 _ rfl w.heap.size rfl 88 _ (0,0) _ r0 Tryz.underlying88 rfl infoSlt ?_)|(refine wpList_load_want rfl 27 _ rfl (w.heap.size+1) rfl 27 _ (0,0) _ r1 Tryz.underlying27 rfl infoV ?_)|fail)
 refine(cE.out _ hb).mono ?_;rintro e_ w1 ⟨rfl,hb1⟩;clear cE;replace r0:=keep hb1 r0;replace r1:=keep hb1 r1;replace r2:=keep hb1 r2;replace hb1:=Below.after hb hb1;have hsz:=lt_of_row r2
 have c0:w1.cell? ⟨w.heap.size,0,none⟩=some (.int .i64 no):=by rw[cell_of_row _ _ _ _ _ _ r0];rfl
 have c1:w1.cell? ⟨w.heap.size,1,none⟩=some (.int .i64 kd):=by rw[cell_of_row _ _ _ _ _ _ r0];rfl
 clear hb
 rcases hE:(E==0)
 ·have hE2:¬E=0:=by simpa using hE
  have hF:=hide (show FO=some ⟨deep,no,E⟩ by rw[hs9.out,if_pos hE2])
  clear hck hP hs9
  have hone:(#[Value.int .i64 deep,.int .i64 no,.int .i64 E]:Array Value).all (·.oneCell')=true:=by simp[Value.oneCell']
  have r3:=setRow_heap w1 (w.heap.size+1+1) _ #[.int .i64 deep,.int .i64 no,.int .i64 E] _ _ r2
  have hb3:=below_setRow (g:=w.heap.size+1+1) hb1 (by omega) #[.int .i64 deep,.int .i64 no,.int .i64 E]
  have A1:=hide r3;have A2:=hide hb3;clear r3 hb3
  go_wp2_with (first|(refine wpList_store_row rfl 41 _ _ rfl (w.heap.size+1+1) #[.int .i64 deep,.int .i64 no,.int .i64 E] rfl rfl 41 _ r2 infoFt rfl hone ?_)|fail)
  exact bodyPost_ret (v:=.agg #[.int .i64 deep,.int .i64 no,.int .i64 E]) (results_cell_row Tryz.results52 _ _ (w.heap.size+1+1) _ _ _ _ rfl A1.out Tryz.underlying41 rfl infoFt) rfl ⟨by rw[hF.out];rfl,A2.out⟩
 obtain rfl:E=0:=by simpa using hE
 by_cases h9:kd=9
 rotate_left
 ·have hF:=hide (show FO=none by rw[hs9.out,if_neg (by decide),if_neg h9])
  have b9:(kd==9)=false:=by simpa using h9
  clear hck hP hs9 hE
  have hone:(#[Value.int .i64 0,.int .i64 0,.int .i64 0]:Array Value).all (·.oneCell')=true:=by simp[Value.oneCell']
  have r3:=setRow_heap w1 (w.heap.size+1+1) _ #[.int .i64 0,.int .i64 0,.int .i64 0] _ _ r2
  have hb3:=below_setRow (g:=w.heap.size+1+1) hb1 (by omega) #[.int .i64 0,.int .i64 0,.int .i64 0]
  have A1:=hide r3;have A2:=hide hb3;clear r3 hb3
  go_wp2_with (first|(refine wpList_store_row rfl 41 _ _ rfl (w.heap.size+1+1) #[.int .i64 0,.int .i64 0,.int .i64 0] rfl rfl 41 _ r2 infoFt rfl hone ?_)|fail)
  exact bodyPost_ret (v:=.agg #[.int .i64 0,.int .i64 0,.int .i64 0]) (results_cell_row Tryz.results52 _ _ (w.heap.size+1+1) _ _ _ _ rfl A1.out Tryz.underlying41 rfl infoFt) rfl ⟨by rw[hF.out];rfl,A2.out⟩
 have hF:=hide (show FO=frsT (fun p=>ckT utD flD t.sub p (deep+1)) (X.parts.drop 0) by rw[hs9.out,if_neg (by decide),if_pos h9];rfl)
 clear hs9 hE;obtain⟨pa_,pc_,ep,hxl,hpc,hpm,hpr,hVs⟩:=hP
 injection ep with ep1 ep2 ep3
 subst ep1 ep3;clear ep2
 generalize X.parts=ps at *
 subst h9
 go_wp2_with (fail)
 go_loopw [8,9] (fun i _ wr=>∃k:Nat,k≤ps.length∧i=.int .i64 k∧FO=frsT (fun p=>ckT utD flD t.sub p (deep+1)) (ps.drop k)∧Below w.heap.size w wr∧Bx wr w.heap.size #[.int .i64 no,.int .i64 9,.int .u64 l,.int .u64 mo,.slice so sn sc]∧Bx wr (w.heap.size+1) #[.int .u64 (n:Int),.slice da dl dc,.slice pa pl pc]∧wr.heap[w.heap.size+1+1]? =some (.cells #[.int .i64 0,.int .i64 0,.int .i64 0] 41 (0,0))) (fun i _ _=>ps.length-(intOf i).toNat)
 case atStart=>exact⟨0,by omega,rfl,hF.out,hb1,⟨_,r0⟩,⟨_,r1⟩,r2⟩
 case round=>
  clear r0 r1 r2 hb1 hF c0 c1 hsz;obtain⟨k,hk,rfl,eR,hb,rA,rB,rF⟩:=hrel
  have cl2:wr.cell? ⟨w.heap.size+1,2,none⟩=some (.slice pa pl pc):=by
   obtain⟨_,h_⟩:=rB;rw[cell_of_row _ _ _ _ _ _ h_];rfl
  by_cases hlt:k<ps.length
  ·have hd:(k:Int)<(pl:Int):=by have:=hpl.out;omega
   obtain⟨pb,poff,rfl,hpb,hpra⟩:=hpr k hlt
   have hpw:=rangeS_keep2 hpra hb hpb;have hpb2:=Nat.lt_of_lt_of_le hpb (Nat.le_refl _)
   have cP:=hide (fun V hV=>hck (gx xs k) (gvt ps k) V hV (hVs k hlt))
   have eR1:FO=match ckT utD flD t.sub (gvt ps k) (deep+1) with
    |some e=>some e
    |none=>frsT (fun p=>ckT utD flD t.sub p (deep+1)) (ps.drop (k+1)):=by
     rw[eR,frsT_drop _ hlt];rfl
   clear eR;obtain⟨F,hF⟩:∃F,ckT utD flD t.sub (gvt ps k) (deep+1)=F:=⟨_,rfl⟩
   have hwhy:∀f,F=some f→¬f.why=0:=fun f e=>ck_why (hF.trans e)
   rw[hF] at eR1 cP;have eR2:=hide eR1;have hwh:=hide hwhy
   generalize gx xs k=x at *
   obtain⟨xn,xda,xdl,xdc,xpa,xpl,xpc⟩:=x;dsimp only at cP;unfold vrv vrw at hpw;clear eR1 hwhy hF hpra hpr hVs hck
   go_wp2_with (fail)
   clear cl2
   have hS0:(fun W:World=>Bx W w.heap.size #[.int .i64 no,.int .i64 9,.int .u64 l,.int .u64 mo,.slice so sn sc]∧Bx W (w.heap.size+1) #[.int .u64 (n:Int),.slice da dl dc,.slice (some ⟨pb,poff,none⟩) pl pc]∧W.rangeAt pb (poff+k*3) [.int .u64 (xn:Int),.slice xda xdl xdc,.slice xpa xpl xpc]) wr:=⟨rA,rB,hpw⟩
   refine wp_region_held (S:=fun W:World=>Bx W w.heap.size #[.int .i64 no,.int .i64 9,.int .u64 l,.int .u64 mo,.slice so sn sc]∧Bx W (w.heap.size+1) #[.int .u64 (n:Int),.slice da dl dc,.slice (some ⟨pb,poff,none⟩) pl pc]∧W.rangeAt pb (poff+k*3) [.int .u64 (xn:Int),.slice xda xdl xdc,.slice xpa xpl xpc]) (by kernel_rfl) ?_
   change wpAnyH _ _ _ _ _ _ _ _ (World.drew _)
   have hbd:Below wr.heap.size wr wr.drew:=below_drN (Below.refl _ _) 1
   replace hS0:(fun W:World=>Bx W w.heap.size #[.int .i64 no,.int .i64 9,.int .u64 l,.int .u64 mo,.slice so sn sc]∧Bx W (w.heap.size+1) #[.int .u64 (n:Int),.slice da dl dc,.slice (some ⟨pb,poff,none⟩) pl pc]∧W.rangeAt pb (poff+k*3) [.int .u64 (xn:Int),.slice xda xdl xdc,.slice xpa xpl xpc]) wr.drew:=hS0
   replace hb:=Below.after hb hbd;replace rF:=keep hbd rF;clear rA rB hpw hbd
   generalize wr.drew=w1 at *
   refine wTy 0 ?v0 rfl ?y0 hS0 ?r0
   case y0=>
    intro w_ hS_;go_simp
    try with_reducible rfl
   simp only[Act.put,ZPa,ZPc,ZPd,ZPe,ZPf];refine wTy 1 (.slice so sn sc) rfl ?y1 hS0 ?r1
   case y1=>
    intro w_ hS_;obtain⟨_,h_⟩:=hS_.1;have c_:=cell_of_row _ _ 4 _ _ _ h_;go_simp
    try with_reducible rfl
   simp only[Act.put,ZPa,ZPb,ZPc,ZPd,ZPe,ZPf];refine wTy 2 ?v2 rfl ?y2 hS0 ?r2
   case y2=>
    intro w_ hS_;go_simp
    try with_reducible rfl
   simp only[Act.put,ZPa,ZPb,ZPc,ZPd,ZPe,ZPf];refine wTy 3 (.slice (some ⟨pb,poff,none⟩) pl pc) rfl ?y3 hS0 ?r3
   case y3=>
    intro w_ hS_;obtain⟨_,h_⟩:=hS_.2.1;have c_:=cell_of_row _ _ 2 _ _ _ h_;go_simp
    try with_reducible rfl
   simp only[Act.put,ZPa,ZPb,ZPc,ZPd,ZPe,ZPf];refine wTy 4 ?v4 rfl ?y4 hS0 ?r4
   case y4=>
    intro w_ hS_;go_simp
    try with_reducible rfl
   simp only[Act.put,ZPa,ZPb,ZPc,ZPd,ZPe,ZPf];refine wTy 5 ?v5 rfl ?y5 hS0 ?r5
   case y5=>
    intro w_ hS_;go_simp
    try with_reducible rfl
   simp only[Act.put,ZPa,ZPb,ZPc,ZPd,ZPe,ZPf]
   refine wTk (i:=6) (v:=.agg #[.int .u64 (xn:Int),.slice xda xdl xdc,.slice xpa xpl xpc]) rfl (yieldsIf_load_mid (by rfl) 27 _ rfl pb (poff+k*3) rfl [.int .u64 (xn:Int),.slice xda xdl xdc,.slice xpa xpl xpc] _ (fun _ h=>h.2.2) Tryz.underlying27 rfl infoV) hS0 ?_
   simp only[Act.put,ZPa,ZPb,ZPc,ZPd,ZPe,ZPf];refine wTy 7 ?v7 rfl ?y7 hS0 ?r7
   case y7=>
    intro w_ hS_;go_simp
    try with_reducible rfl
   simp only[Act.put,ZPa,ZPb,ZPc,ZPd,ZPe,ZPf];refine wTy 8 ?v8 rfl ?y8 hS0 ?r8
   case y8=>
    intro w_ hS_;go_simp
    try rw[hwr]
    try with_reducible rfl
   simp only[Act.put,ZPa,ZPb,ZPc,ZPd,ZPe,ZPf]
   refine wpAnyH_two (j:=9) (k:=10) (fuel:=2) (by kernel_rfl) rfl rfl (by kernel_rfl) (by kernel_rfl) (fun K_ hK=>?_) (fun K_ hK=>?_)
   ·have cX:=(cP.out w1 hb).mono (fun e w' h=>(⟨_,h.1,rfl,h.2⟩:∃v,e=.returned v∧v=.agg (flr F)∧Below w1.heap.size w1 w'))
    refine wp_call_ex (R:=fun v w'=>v=.agg (flr F)∧Below w1.heap.size w1 w') (by kernel_rfl) cX (fun v_ w2 hX_=>?_)
    obtain⟨rfl,hbx⟩:=hX_
    replace hS0:(fun W:World=>Bx W w.heap.size #[.int .i64 no,.int .i64 9,.int .u64 l,.int .u64 mo,.slice so sn sc]∧Bx W (w.heap.size+1) #[.int .u64 (n:Int),.slice da dl dc,.slice (some ⟨pb,poff,none⟩) pl pc]∧W.rangeAt pb (poff+k*3) [.int .u64 (xn:Int),.slice xda xdl xdc,.slice xpa xpl xpc]) w2:=⟨hS0.1.keep hbx,hS0.2.1.keep hbx,rangeS_keep2 hS0.2.2 hbx (Nat.lt_of_lt_of_le hpb2 (by have:=hS0.1.lt;omega))⟩
    replace hb:=Below.after hb hbx;replace rF:=keep hbx rF;refine hK _ _ hS0 ?_;simp only[Act.put,ZPa,ZPb,ZPc,ZPd,ZPe,ZPf];clear hK;clear cX hbx
    refine wpAnyH_one (k:=10) (fuel:=1) (by kernel_rfl) rfl (by kernel_rfl) (fun K_ hK=>?_)
    refine wp_val_op (.pointer (some ⟨w2.heap.size,0,none⟩)) (w':=w2.alloc (.cells #[.int .i64 0,.int .i64 0,.int .i64 0] 41)) (by kernel_rfl) ?_
    have hba:Below w2.heap.size w2 (w2.alloc (.cells #[.int .i64 0,.int .i64 0,.int .i64 0] 41)):=(Below.refl _ _).alloc (Nat.le_refl _) _;have rG:=hp1_0 w2 (.cells #[.int .i64 0,.int .i64 0,.int .i64 0] 41);have hgl:w.heap.size+1+1<w2.heap.size:=lt_of_row rF
    replace hS0:(fun W:World=>Bx W w.heap.size #[.int .i64 no,.int .i64 9,.int .u64 l,.int .u64 mo,.slice so sn sc]∧Bx W (w.heap.size+1) #[.int .u64 (n:Int),.slice da dl dc,.slice (some ⟨pb,poff,none⟩) pl pc]∧W.rangeAt pb (poff+k*3) [.int .u64 (xn:Int),.slice xda xdl xdc,.slice xpa xpl xpc]) (w2.alloc (.cells #[.int .i64 0,.int .i64 0,.int .i64 0] 41)):=⟨hS0.1.keep hba,hS0.2.1.keep hba,rangeS_keep2 hS0.2.2 hba (Nat.lt_of_lt_of_le hpb2 (by have:=hS0.1.lt;omega))⟩
    replace hb:=Below.after hb hba;replace rF:=keep hba rF;refine hK _ _ hS0 ?_;simp only[Act.put,ZPa,ZPb,ZPc,ZPd,ZPe,ZPf];clear hK;clear hba
    generalize w2.alloc (.cells #[.int .i64 0,.int .i64 0,.int .i64 0] 41)=w4 at *
    generalize w2.heap.size=gf at *
    cases F with
    |none=>
     have hone:(#[Value.int .i64 0,.int .i64 0,.int .i64 0]:Array Value).all (·.oneCell')=true:=by simp[Value.oneCell']
     refine wpAnyH_one (k:=11) (fuel:=0) (by kernel_rfl) rfl (by kernel_rfl) (fun K_ hK=>?_)
     refine wp_store_row 41 _ _ rfl gf #[.int .i64 0,.int .i64 0,.int .i64 0] rfl rfl 41 _ rG infoFt rfl hone ?_;have hgw:=lt_of_row rG;have rG5:=setRow_heap w4 gf _ #[.int .i64 0,.int .i64 0,.int .i64 0] _ _ rG
     have rF5:=(setRow_other w4 gf (w.heap.size+1+1) #[.int .i64 0,.int .i64 0,.int .i64 0] (by omega)).trans rF
     have hb5:=below_setRow (g:=gf) hb (by omega) #[.int .i64 0,.int .i64 0,.int .i64 0]
     refine hK _ _ ⟨hS0.1.row (by omega),hS0.2.1.row (by omega),range_same hS0.2.2 (setRow_other w4 gf pb _ (by omega))⟩ ?_
     obtain⟨TA,rA4⟩:=hS0.1;obtain⟨TB,rB4⟩:=hS0.2.1
     have rA5:=(setRow_other w4 gf w.heap.size #[.int .i64 0,.int .i64 0,.int .i64 0] (by omega)).trans rA4
     have rB5:=(setRow_other w4 gf (w.heap.size+1) #[.int .i64 0,.int .i64 0,.int .i64 0] (by omega)).trans rB4
     simp only[Act.put,ZPa,ZPb,ZPc];clear hK hS0 rG rF hb rA4 rB4 cP
     generalize w4.setRow gf #[.int .i64 0,.int .i64 0,.int .i64 0]=w5 at *
     have c2:w5.cell? ⟨gf,2,none⟩=some (.int .i64 0):=by rw[cell_of_row _ _ _ _ _ _ rG5];rfl
     have B1:=hide hb5;have B2:=hide rA5;have B4:=hide rB5;have B3:=hide rF5;clear hb5 rA5 rB5 rF5 rG5
     refine wpAnyH_done (by kernel_rfl) ?_ _
     go_wp2_with (fail)
     refine⟨⟨k+1,by omega,by first|omega|(push_cast;rfl),eR2.out,B1.out,⟨_,B2.out⟩,⟨_,B4.out⟩,B3.out⟩,?_⟩
     simp[intOf];omega
    |some f=>
     have hone:(#[Value.int .i64 f.line,.int .i64 f.at_,.int .i64 f.why]:Array Value).all (·.oneCell')=true:=by simp[Value.oneCell']
     refine wpAnyH_one (k:=11) (fuel:=0) (by kernel_rfl) rfl (by kernel_rfl) (fun K_ hK=>?_)
     refine wp_store_row 41 _ _ rfl gf #[.int .i64 f.line,.int .i64 f.at_,.int .i64 f.why] rfl rfl 41 _ rG infoFt rfl hone ?_;have hgw:=lt_of_row rG;have rG5:=setRow_heap w4 gf _ #[.int .i64 f.line,.int .i64 f.at_,.int .i64 f.why] _ _ rG
     have rF5:=(setRow_other w4 gf (w.heap.size+1+1) #[.int .i64 f.line,.int .i64 f.at_,.int .i64 f.why] (by omega)).trans rF
     have hb5:=below_setRow (g:=gf) hb (by omega) #[.int .i64 f.line,.int .i64 f.at_,.int .i64 f.why]
     refine hK _ _ ⟨hS0.1.row (by omega),hS0.2.1.row (by omega),range_same hS0.2.2 (setRow_other w4 gf pb _ (by omega))⟩ ?_
     obtain⟨TA,rA4⟩:=hS0.1;obtain⟨TB,rB4⟩:=hS0.2.1
     have rA5:=(setRow_other w4 gf w.heap.size #[.int .i64 f.line,.int .i64 f.at_,.int .i64 f.why] (by omega)).trans rA4
     have rB5:=(setRow_other w4 gf (w.heap.size+1) #[.int .i64 f.line,.int .i64 f.at_,.int .i64 f.why] (by omega)).trans rB4
     simp only[Act.put,ZPa,ZPb,ZPc];clear hK hS0 rG rF hb rA4 rB4 cP
     generalize w4.setRow gf #[.int .i64 f.line,.int .i64 f.at_,.int .i64 f.why]=w5 at *
     have c2:w5.cell? ⟨gf,2,none⟩=some (.int .i64 f.why):=by rw[cell_of_row _ _ _ _ _ _ rG5];rfl
     have hw1:=hwh.out f rfl
     have hw2:(f.why==0)=false:=by simpa using hw1
     have r6:=setRow_heap w5 (w.heap.size+1+1) _ #[.int .i64 f.line,.int .i64 f.at_,.int .i64 f.why] _ _ rF5
     have hb6:=below_setRow (g:=w.heap.size+1+1) hb5 (by omega) #[.int .i64 f.line,.int .i64 f.at_,.int .i64 f.why]
     have B1:=hide hb6;have B2:=hide r6;clear hb5 hb6 r6 rA5 rB5
     refine wpAnyH_done (by kernel_rfl) ?_ _
     go_wp2_with (first|(refine wpList_load_want rfl 41 _ rfl gf rfl 41 _ (0,0) _ rG5 Tryz.underlying41 rfl infoFt ?_)|(refine wpList_store_row rfl 41 _ _ rfl (w.heap.size+1+1) #[.int .i64 f.line,.int .i64 f.at_,.int .i64 f.why] rfl rfl 41 _ rF5 infoFt rfl hone ?_)|fail)
     exact bodyPost_ret (v:=.agg #[.int .i64 f.line,.int .i64 f.at_,.int .i64 f.why]) (results_cell_row Tryz.results52 _ _ (w.heap.size+1+1) _ _ _ _ rfl B2.out Tryz.underlying41 rfl infoFt) rfl ⟨by rw[eR2.out];rfl,B1.out⟩
   ·refine wp_val_op (.pointer (some ⟨w1.heap.size,0,none⟩)) (w':=w1.alloc (.cells #[.int .i64 0,.int .i64 0,.int .i64 0] 41)) (by kernel_rfl) ?_
    have hba:Below w1.heap.size w1 (w1.alloc (.cells #[.int .i64 0,.int .i64 0,.int .i64 0] 41)):=(Below.refl _ _).alloc (Nat.le_refl _) _
    have rG:=hp1_0 w1 (.cells #[.int .i64 0,.int .i64 0,.int .i64 0] 41);have hgl:w.heap.size+1+1<w1.heap.size:=lt_of_row rF
    replace hS0:(fun W:World=>Bx W w.heap.size #[.int .i64 no,.int .i64 9,.int .u64 l,.int .u64 mo,.slice so sn sc]∧Bx W (w.heap.size+1) #[.int .u64 (n:Int),.slice da dl dc,.slice (some ⟨pb,poff,none⟩) pl pc]∧W.rangeAt pb (poff+k*3) [.int .u64 (xn:Int),.slice xda xdl xdc,.slice xpa xpl xpc]) (w1.alloc (.cells #[.int .i64 0,.int .i64 0,.int .i64 0] 41)):=⟨hS0.1.keep hba,hS0.2.1.keep hba,rangeS_keep2 hS0.2.2 hba (Nat.lt_of_lt_of_le hpb2 (by have:=hS0.1.lt;omega))⟩
    replace hb:=Below.after hb hba;replace rF:=keep hba rF;refine hK _ _ hS0 ?_;simp only[Act.put,ZPa,ZPb,ZPc,ZPd,ZPe,ZPf];clear hK;clear hba
    generalize w1.alloc (.cells #[.int .i64 0,.int .i64 0,.int .i64 0] 41)=w3 at *
    generalize w1.heap.size=gf at *
    refine wpAnyH_one (k:=9) (fuel:=1) (by kernel_rfl) rfl (by kernel_rfl) (fun K_ hK=>?_)
    have cX:=(cP.out w3 hb).mono (fun e w' h=>(⟨_,h.1,rfl,h.2⟩:∃v,e=.returned v∧v=.agg (flr F)∧Below w3.heap.size w3 w'))
    refine wp_call_ex (R:=fun v w'=>v=.agg (flr F)∧Below w3.heap.size w3 w') (by kernel_rfl) cX (fun v_ w4 hX_=>?_)
    obtain⟨rfl,hbx⟩:=hX_
    replace hS0:(fun W:World=>Bx W w.heap.size #[.int .i64 no,.int .i64 9,.int .u64 l,.int .u64 mo,.slice so sn sc]∧Bx W (w.heap.size+1) #[.int .u64 (n:Int),.slice da dl dc,.slice (some ⟨pb,poff,none⟩) pl pc]∧W.rangeAt pb (poff+k*3) [.int .u64 (xn:Int),.slice xda xdl xdc,.slice xpa xpl xpc]) w4:=⟨hS0.1.keep hbx,hS0.2.1.keep hbx,rangeS_keep2 hS0.2.2 hbx (Nat.lt_of_lt_of_le hpb2 (by have:=hS0.1.lt;omega))⟩
    replace hb:=Below.after hb hbx;replace rF:=keep hbx rF;replace rG:=keep hbx rG;refine hK _ _ hS0 ?_;simp only[Act.put,ZPa,ZPb,ZPc,ZPd,ZPe,ZPf];clear hK;clear cX hbx
    cases F with
    |none=>
     have hone:(#[Value.int .i64 0,.int .i64 0,.int .i64 0]:Array Value).all (·.oneCell')=true:=by simp[Value.oneCell']
     refine wpAnyH_one (k:=11) (fuel:=0) (by kernel_rfl) rfl (by kernel_rfl) (fun K_ hK=>?_)
     refine wp_store_row 41 _ _ rfl gf #[.int .i64 0,.int .i64 0,.int .i64 0] rfl rfl 41 _ rG infoFt rfl hone ?_;have hgw:=lt_of_row rG;have rG5:=setRow_heap w4 gf _ #[.int .i64 0,.int .i64 0,.int .i64 0] _ _ rG
     have rF5:=(setRow_other w4 gf (w.heap.size+1+1) #[.int .i64 0,.int .i64 0,.int .i64 0] (by omega)).trans rF
     have hb5:=below_setRow (g:=gf) hb (by omega) #[.int .i64 0,.int .i64 0,.int .i64 0]
     refine hK _ _ ⟨hS0.1.row (by omega),hS0.2.1.row (by omega),range_same hS0.2.2 (setRow_other w4 gf pb _ (by omega))⟩ ?_
     obtain⟨TA,rA4⟩:=hS0.1;obtain⟨TB,rB4⟩:=hS0.2.1
     have rA5:=(setRow_other w4 gf w.heap.size #[.int .i64 0,.int .i64 0,.int .i64 0] (by omega)).trans rA4
     have rB5:=(setRow_other w4 gf (w.heap.size+1) #[.int .i64 0,.int .i64 0,.int .i64 0] (by omega)).trans rB4
     simp only[Act.put,ZPa,ZPb,ZPc];clear hK hS0 rG rF hb rA4 rB4 cP
     generalize w4.setRow gf #[.int .i64 0,.int .i64 0,.int .i64 0]=w5 at *
     have c2:w5.cell? ⟨gf,2,none⟩=some (.int .i64 0):=by rw[cell_of_row _ _ _ _ _ _ rG5];rfl
     have B1:=hide hb5;have B2:=hide rA5;have B4:=hide rB5;have B3:=hide rF5;clear hb5 rA5 rB5 rF5 rG5
     refine wpAnyH_done (by kernel_rfl) ?_ _
     go_wp2_with (fail)
     refine⟨⟨k+1,by omega,by first|omega|(push_cast;rfl),eR2.out,B1.out,⟨_,B2.out⟩,⟨_,B4.out⟩,B3.out⟩,?_⟩
     simp[intOf];omega
    |some f=>
     have hone:(#[Value.int .i64 f.line,.int .i64 f.at_,.int .i64 f.why]:Array Value).all (·.oneCell')=true:=by simp[Value.oneCell']
     refine wpAnyH_one (k:=11) (fuel:=0) (by kernel_rfl) rfl (by kernel_rfl) (fun K_ hK=>?_)
     refine wp_store_row 41 _ _ rfl gf #[.int .i64 f.line,.int .i64 f.at_,.int .i64 f.why] rfl rfl 41 _ rG infoFt rfl hone ?_;have hgw:=lt_of_row rG;have rG5:=setRow_heap w4 gf _ #[.int .i64 f.line,.int .i64 f.at_,.int .i64 f.why] _ _ rG
     have rF5:=(setRow_other w4 gf (w.heap.size+1+1) #[.int .i64 f.line,.int .i64 f.at_,.int .i64 f.why] (by omega)).trans rF
     have hb5:=below_setRow (g:=gf) hb (by omega) #[.int .i64 f.line,.int .i64 f.at_,.int .i64 f.why]
     refine hK _ _ ⟨hS0.1.row (by omega),hS0.2.1.row (by omega),range_same hS0.2.2 (setRow_other w4 gf pb _ (by omega))⟩ ?_
     obtain⟨TA,rA4⟩:=hS0.1;obtain⟨TB,rB4⟩:=hS0.2.1
     have rA5:=(setRow_other w4 gf w.heap.size #[.int .i64 f.line,.int .i64 f.at_,.int .i64 f.why] (by omega)).trans rA4
     have rB5:=(setRow_other w4 gf (w.heap.size+1) #[.int .i64 f.line,.int .i64 f.at_,.int .i64 f.why] (by omega)).trans rB4
     simp only[Act.put,ZPa,ZPb,ZPc];clear hK hS0 rG rF hb rA4 rB4 cP
     generalize w4.setRow gf #[.int .i64 f.line,.int .i64 f.at_,.int .i64 f.why]=w5 at *
     have c2:w5.cell? ⟨gf,2,none⟩=some (.int .i64 f.why):=by rw[cell_of_row _ _ _ _ _ _ rG5];rfl
     have hw1:=hwh.out f rfl
     have hw2:(f.why==0)=false:=by simpa using hw1
     have r6:=setRow_heap w5 (w.heap.size+1+1) _ #[.int .i64 f.line,.int .i64 f.at_,.int .i64 f.why] _ _ rF5
     have hb6:=below_setRow (g:=w.heap.size+1+1) hb5 (by omega) #[.int .i64 f.line,.int .i64 f.at_,.int .i64 f.why]
     have B1:=hide hb6;have B2:=hide r6;clear hb5 hb6 r6 rA5 rB5
     refine wpAnyH_done (by kernel_rfl) ?_ _
     go_wp2_with (first|(refine wpList_load_want rfl 41 _ rfl gf rfl 41 _ (0,0) _ rG5 Tryz.underlying41 rfl infoFt ?_)|(refine wpList_store_row rfl 41 _ _ rfl (w.heap.size+1+1) #[.int .i64 f.line,.int .i64 f.at_,.int .i64 f.why] rfl rfl 41 _ rF5 infoFt rfl hone ?_)|fail)
     exact bodyPost_ret (v:=.agg #[.int .i64 f.line,.int .i64 f.at_,.int .i64 f.why]) (results_cell_row Tryz.results52 _ _ (w.heap.size+1+1) _ _ _ _ rfl B2.out Tryz.underlying41 rfl infoFt) rfl ⟨by rw[eR2.out];rfl,B1.out⟩
  ·have hd:(pl:Int)≤(k:Int):=by have:=hpl.out;omega
   obtain rfl:k=ps.length:=by omega
   rw[List.drop_length,frsT] at eR;replace eR:=hide eR;obtain⟨TA,rA⟩:=rA;have hsz:=lt_of_row rF;clear hpr hVs hck
   have hone:(#[Value.int .i64 0,.int .i64 0,.int .i64 0]:Array Value).all (·.oneCell')=true:=by simp[Value.oneCell']
   have r3:=setRow_heap wr (w.heap.size+1+1) _ #[.int .i64 0,.int .i64 0,.int .i64 0] _ _ rF
   have hb3:=below_setRow (g:=w.heap.size+1+1) hb (by omega) #[.int .i64 0,.int .i64 0,.int .i64 0]
   have A1:=hide r3;have A2:=hide hb3;clear r3 hb3
   go_wp2_with (first|(refine wpList_store_row rfl 41 _ _ rfl (w.heap.size+1+1) #[.int .i64 0,.int .i64 0,.int .i64 0] rfl rfl 41 _ rF infoFt rfl hone ?_)|fail)
   exact bodyPost_ret (v:=.agg #[.int .i64 0,.int .i64 0,.int .i64 0]) (results_cell_row Tryz.results52 _ _ (w.heap.size+1+1) _ _ _ _ rfl A1.out Tryz.underlying41 rfl infoFt) rfl ⟨by rw[eR.out];rfl,A2.out⟩
theorem r_checkA:∀(m:Nat) (ts:List Slt),htT ts≤(m:Int)→gd ts→∀(S:Nat→Prop) (sv:Value) (x:VR) (X:VT) (deep:Int) (w:World),0≤deep→deep+htT ts≤9223372036854775807→Slo w sv ts→VtM w S x X→Calls Tryz.prog 34 #[sv,.agg (vrv x),.int .i64 deep] w fun e w'=>e=.returned (.agg (flr (ckT utD flD ts X deep)))∧Below w.heap.size w w':=by
 intro m
 induction m with
 |zero=>
  intro ts hh _ S sv x X deep w hd hd2 h hX
  refine r_checkN S x X deep w h hX (fun k hk=>?_)
  have:=htT_sub ts k hk;have:=htT_pos (gs ts k).sub;omega
 |succ m ih=>
  intro ts hh hg S sv x X deep w hd hd2 h hX
  refine r_checkN S x X deep w h hX (fun k hk u y Y V hV hu hY=>?_)
  have hs:=htT_sub ts k hk;have hp:=htT_pos (gs ts k).sub;have hgk:=(gd_at ts k hk hg).2;obtain⟨so,sc,rfl⟩:=hu.form
  refine r_partN (S:=S) hgk.1 y Y deep hd (by omega) V (hY.blw hV) (fun z Z V2 hV2 hZ=>?_)
  have hgs:gd (gs ts k).sub:=gd_subs hgk.1 hgk.2
  exact ih (gs ts k).sub (by omega) hgs S _ z Z (deep+1) V2 (by omega) (by omega) ((hu.keep hV).keep hV2) (hZ.blw hV2)
theorem there_of_row {W:World} {g:Nat} {cs:Array Value} {t:TypeId} (h:W.heap[g]? =some (.cells cs t (0,0))) {o n:Nat} (hn:o+n≤cs.size):W.there g o n:=by
 intro j hj
 constructor
 ·rw[cell_of_row _ _ _ _ _ _ h]
  simp;omega
 ·simp[World.frozen?,h]
def hzr:List Value:=[.int .i64 0,.int .i64 0,.int .u64 0,.int .u64 0,nS]
def hmk:List Value:=[.int .i64 (-77),.int .i64 0,.int .u64 0,.int .u64 0,nS]
inductive HSl (W:World) (S:Nat→Prop):Value→List Slt→Prop
 |mk (G:Nat) (ts:List Slt) (us:List Value) (hl:ts.length≤10000) (hG:G<W.heap.size) (hS:S G)
  (h:∀i,i<ts.length→W.rangeAt G (i*5) (srow (gs ts i) (gvs us i))∧Sok (gs ts i))
  (hm:∀i,ts.length≤i→i<ts.length+3→W.rangeAt G (i*5) hmk)
  (hs:∀i,i<ts.length→HSl W S (gvs us i) (gs ts i).sub):HSl W S (.slice (some ⟨G,0,none⟩) ts.length (ts.length+3)) ts
theorem HSl.slo {W:World} {S:Nat→Prop} {v:Value} {ts:List Slt} (h:HSl W S v ts):Slo W v ts:=by
 induction h with
 |mk G ts us hl hG hS h hm hs ih=>
  refine .mk (some ⟨G,0,none⟩) _ ts us (by omega) (by omega) (fun e=>by cases e) (fun i hi=>⟨G,0,rfl,hG,?_,(h i hi).2⟩) ih
  rw[Nat.zero_add];exact(h i hi).1
theorem HSl.keep {W V:World} {S T:Nat→Prop} {v:Value} {ts:List Slt} (h:HSl W S v ts) (hs:W.heap.size≤V.heap.size) (hb:∀b,b<W.heap.size→S b→V.heap[b]? =W.heap[b]?∧T b):HSl V T v ts:=by
 induction h with
 |mk G ts us hl hG hS h hm _ ih=>
  exact .mk G ts us hl (by omega) (hb G hG hS).2 (fun i hi=>⟨range_same (h i hi).1 (hb G hG hS).1,(h i hi).2⟩) (fun i h1 h2=>range_same (hm i h1 h2) (hb G hG hS).1) ih
theorem HSl.form {W:World} {S:Nat→Prop} {v:Value} {ts:List Slt} (h:HSl W S v ts):∃G,v=.slice (some ⟨G,0,none⟩) ts.length (ts.length+3)∧S G:=by
 cases h with
 |mk G _ us hl hG hS h hm hs=>exact⟨G,rfl,hS⟩
theorem slL_len:∀(ts:List Slt) (l:Int),0≤slL ts l→(ts.length:Int)≤l
 |[],l,h=>by rw[slL] at h;simpa using h
 |t::ts,l,h=>by
  rw[slL_cons] at h
  split at h
  ·have h1:=slL_len ts _ h
   have h2:=(slL_le t.sub (l-1)).1
   rw[List.length_cons];omega
  ·omega
theorem slL_at:∀(ts:List Slt) (l:Int) (i:Nat),0≤slL ts l→i<ts.length→∃l',l'≤l∧0≤slL (gs ts i).sub l'
 |[],l,i,_,hi=>by simp at hi
 |t::ts,l,i,h,hi=>by
  rw[slL_cons] at h
  split at h
  ·have h2:=(slL_le t.sub (l-1)).1
   cases i with
   |zero=>exact⟨l-1,by omega,by have:=(slL_le ts (slL t.sub (l-1))).1;show 0≤slL t.sub (l-1);omega⟩
   |succ i=>
    obtain⟨l',h3,h4⟩:=slL_at ts _ i h (by simpa using hi)
    exact⟨l',by omega,h4⟩
  ·omega
def hrow (ts:List Slt) (us:List Value) (k i:Nat):List Value:=if i<k then(if i<ts.length then srow (gs ts i) (gvs us i) else hmk) else hzr
def Hrw (W:World) (G:Nat) (ts:List Slt) (us:List Value) (k:Nat):Prop:=∃cs,W.heap[G]? =some (.cells cs 88 (0,0))∧cs.size=(ts.length+3)*5∧∀i c,i<ts.length+3→c<5→cs[i*5+c]? =(hrow ts us k i)[c]?
theorem Hrw.keep {W V:World} {G:Nat} {ts:List Slt} {us:List Value} {k:Nat} (h:Hrw W G ts us k) (hb:V.heap[G]? =W.heap[G]?):Hrw V G ts us k:=by
 obtain⟨cs,h1,h2⟩:=h;exact⟨cs,hb.trans h1,h2⟩
theorem Hrw.range {W:World} {G:Nat} {ts:List Slt} {us:List Value} {k i:Nat} (h:Hrw W G ts us k) (hi:i<ts.length+3) (hl:(hrow ts us k i).length=5):W.rangeAt G (i*5) (hrow ts us k i):=by
 obtain⟨cs,h1,h2,h3⟩:=h;intro j v hv;have hj:=(List.getElem?_eq_some_iff.1 hv).1
 rw[cell_of_row _ _ _ _ _ _ h1,h3 i j hi (by omega)]
 exact hv
theorem hrow_len (ts:List Slt) (us:List Value) (k i:Nat):(hrow ts us k i).length=5:=by
 unfold hrow
 split
 ·split<;>rfl
 ·rfl
theorem infoSl:∃i,Tryz.prog.info? 88=some i∧i.zero=some (.agg #[.int .i64 0,.int .i64 0,.int .u64 0,.int .u64 0,nS])∧i.size=5∧i.bytes=56:=⟨_,rfl,rfl,rfl,rfl⟩
theorem make_sl (n:Nat) (hn:n≤10003) (w:World):∃cs,(Instr.makeSlice 22 (.int .i64 (n:Int)) (.int .i64 (n:Int))).run Tryz.prog w=.ok (.slice (some ⟨w.heap.size,0,none⟩) n n) (w.alloc (.cells cs 88))∧cs.size=n*5∧∀i c,i<n→c<5→cs[i*5+c]? =hzr[c]? :=by
 obtain⟨i0,hi,hz0,hz1,hz2⟩:=infoSl
 have h:=run_make (P:=Tryz.prog) w 22 88 i0 _ Tryz.underlying22 hi hz0 .i64 .i64 (n:Int) (n:Int) (by omega) (by omega) (by rw[hz2];omega) (by omega)
 rw[hz1,Int.toNat_natCast] at h
 refine⟨_,h,by simp[madeCells],fun i c h1 h2=>?_⟩
 have h3:i*5+c<n*5:=by omega
 have h4:(i*5+c)%5=c:=by omega
 rcases(by omega:c=0∨c=1∨c=2∨c=3∨c=4) with rfl|rfl|rfl|rfl|rfl
 ·rw[Nat.add_zero] at h3 h4⊢
  simp[madeCells,Value.cells,hzr,h3,h4]
 all_goals simp[madeCells,Value.cells,hzr,h3,h4]
theorem Hrw.mark {W:World} {G:Nat} {ts:List Slt} {us:List Value} {k:Nat} (h:Hrw W G ts us k) (hk:ts.length≤k) (hk3:k<ts.length+3):Hrw (W.setCell ⟨G,k*5,none⟩ (.int .i64 (-77))) G ts us (k+1):=by
 obtain⟨cs,h1,h2,h3⟩:=h
 refine⟨_,heap_setCell_same W G (k*5) cs _ _ h1,by simp[h2],fun i c hi hc=>?_⟩
 rw[Array.getElem?_setIfInBounds]
 by_cases e:k*5=i*5+c
 ·have e1:i=k:=by omega
  have e2:c=0:=by omega
  subst e1 e2
  rw[if_pos e,if_pos (by omega)]
  unfold hrow
  rw[if_pos (by omega),if_neg (by omega)];rfl
 ·rw[if_neg e,h3 i c hi hc]
  by_cases e1:i=k
  ·subst e1
   have c0:c≠0:=by omega
   unfold hrow
   rw[if_neg (by omega),if_pos (by omega),if_neg (by omega)]
   rcases(by omega:c=1∨c=2∨c=3∨c=4) with rfl|rfl|rfl|rfl<;>rfl
  ·unfold hrow
   by_cases e2:i<k
   ·rw[if_pos e2,if_pos (show i<k+1 by omega)]
   ·rw[if_neg e2,if_neg (show¬i<k+1 by omega)]
theorem Hrw.slot {W V:World} {G:Nat} {ts:List Slt} {us:List Value} {k:Nat} {u v:Value} (h:Hrw W G ts us k) (hk:k<ts.length) (hu:us.length=k) (hV:V.heap[G]? =((W.setCell ⟨G,k*5,none⟩ (.int .i64 (-77))).setCells G (k*5) (srow (gs ts k) u)).heap[G]?):Hrw (V.setCell ⟨G,k*5+4,none⟩ v) G ts (us++[v]) (k+1):=by
 obtain⟨cs,h1,h2,h3⟩:=h;have s1:=heap_setCell_same W G (k*5) cs _ (.int .i64 (-77)) h1
 have s2:((W.setCell ⟨G,k*5,none⟩ (.int .i64 (-77))).setCells G (k*5) (srow (gs ts k) u)).heap[G]? =_:=
  heap_setCell_same _ G (k*5+1+1+1+1) _ _ u (heap_setCell_same _ G (k*5+1+1+1) _ _ (.int .u64 ((gs ts k).most:Int)) (heap_setCell_same _ G (k*5+1+1) _ _ (.int .u64 ((gs ts k).least:Int)) (heap_setCell_same _ G (k*5+1) _ _ (.int .i64 (gs ts k).kind) (heap_setCell_same _ G (k*5) _ _ (.int .i64 (gs ts k).no) s1))))
 refine⟨_,heap_setCell_same V G (k*5+4) _ _ v (hV.trans s2),by simp[h2],fun i c hi hc=>?_⟩
 simp only[Array.getElem?_setIfInBounds,Array.size_setIfInBounds]
 by_cases e1:i=k
 ·subst e1
  have e3:hrow ts (us++[v]) (i+1) i=srow (gs ts i) v:=by
   unfold hrow;rw[if_pos (by omega),if_pos hk,gvs_top _ _ _ hu]
  rw[e3]
  have hb:i*5+c<cs.size:=by omega
  rcases(by omega:c=0∨c=1∨c=2∨c=3∨c=4) with rfl|rfl|rfl|rfl|rfl
  ·rw[if_neg (by omega),if_neg (by omega),if_neg (by omega),if_neg (by omega),if_neg (by omega),if_pos (by omega),if_pos (by omega)];rfl
  ·rw[if_neg (by omega),if_neg (by omega),if_neg (by omega),if_neg (by omega),if_pos (by omega),if_pos (by omega)];rfl
  ·rw[if_neg (by omega),if_neg (by omega),if_neg (by omega),if_pos (by omega),if_pos (by omega)];rfl
  ·rw[if_neg (by omega),if_neg (by omega),if_pos (by omega),if_pos (by omega)];rfl
  ·rw[if_pos (by omega),if_pos (by omega)];rfl
 ·rw[if_neg (by omega),if_neg (by omega),if_neg (by omega),if_neg (by omega),if_neg (by omega),if_neg (by omega),if_neg (by omega),h3 i c hi hc]
  unfold hrow
  by_cases e2:i<k
  ·rw[if_pos e2,if_pos (by omega),if_pos (by omega),if_pos (by omega),gvs_low _ _ _ (by omega)]
  ·rw[if_neg e2,if_neg (by omega)]
theorem heap_setCells_else {g k:Nat} (hk:k≠g):∀(vs:List Value) (o:Nat) (w:World),(w.setCells g o vs).heap[k]? =w.heap[k]?
 |[],_,_=>rfl
 |v::r,o,w=>(heap_setCells_else hk r (o+1) _).trans (heap_setCell_other w _ k v hk)
theorem below_setCells {n g:Nat} {w0:World} (hg:n≤g):∀(vs:List Value) (o:Nat) (w:World),Below n w0 w→Below n w0 (w.setCells g o vs)
 |[],_,_,h=>h
 |v::r,o,_,h=>below_setCells hg r (o+1) _ (h.setCell hg v)
theorem size_setCells {g:Nat}:∀(vs:List Value) (o:Nat) (w:World),(w.setCells g o vs).heap.size=w.heap.size
 |[],_,_=>rfl
 |v::r,o,w=>by
  show((w.setCell ⟨g,o,none⟩ v).setCells g (o+1) r).heap.size=_
  rw[size_setCells r (o+1)];simp
theorem setCells_row {g:Nat} {t:TypeId}:∀(vs:List Value) (o:Nat) (w:World) (cs:Array Value),w.heap[g]? =some (.cells cs t (0,0))→∃cs',(w.setCells g o vs).heap[g]? =some (.cells cs' t (0,0))∧cs'.size=cs.size
 |[],_,_,cs,h=>⟨cs,h,rfl⟩
 |v::r,o,w,cs,h=>by
  obtain⟨cs',h1,h2⟩:=setCells_row r (o+1) _ _ (heap_setCell_same w g o cs t v h)
  exact⟨cs',h1,by rw[h2];simp⟩
inductive SlL (W:World) (S:Nat→Prop):Value→List Slt→Prop
 |mk (ao:Option Addr) (cap:Nat) (ts:List Slt) (us:List Value) (hl:ts.length≤2932031007317) (hc:ts.length≤cap) (hn:ao=none→cap=0)
  (h:∀i,i<ts.length→∃b off,ao=some ⟨b,off,none⟩∧b<W.heap.size∧S b∧W.rangeAt b (off+i*5) (srow (gs ts i) (gvs us i))∧Sok (gs ts i))
  (hs:∀i,i<ts.length→SlL W S (gvs us i) (gs ts i).sub):SlL W S (.slice ao ts.length cap) ts
theorem SlL.slo {W:World} {S:Nat→Prop} {v:Value} {ts:List Slt} (h:SlL W S v ts):Slo W v ts:=by
 induction h with
 |mk ao cap ts us hl hc hn h hs ih=>
  refine .mk ao cap ts us hl hc hn (fun i hi=>?_) ih
  obtain⟨b,off,h1,h2,_,h4,h5⟩:=h i hi;exact⟨b,off,h1,h2,h4,h5⟩
theorem SlL.keep {W V:World} {S T:Nat→Prop} {v:Value} {ts:List Slt} (h:SlL W S v ts) (hs:W.heap.size≤V.heap.size) (hb:∀b,b<W.heap.size→S b→V.heap[b]? =W.heap[b]?∧T b):SlL V T v ts:=by
 induction h with
 |mk ao cap ts us hl hc hn h _ ih=>
  refine .mk ao cap ts us hl hc hn (fun i hi=>?_) ih
  obtain⟨b,off,h1,h2,h3,h4,h5⟩:=h i hi
  exact⟨b,off,h1,by omega,(hb b h2 h3).2,range_same h4 (hb b h2 h3).1,h5⟩
theorem SlL.form {W:World} {S:Nat→Prop} {v:Value} {ts:List Slt} (h:SlL W S v ts):∃ao cap,v=.slice ao ts.length cap:=by
 cases h
 exact⟨_,_,rfl⟩
def scl:List Slt→List Value→List Value
 |t::ts,u::us=>srow t u++scl ts us
 |_,_=>[]
theorem scl_snoc:∀(ts:List Slt) (us:List Value) (t:Slt) (u:Value),ts.length=us.length→scl (ts++[t]) (us++[u])=scl ts us++srow t u
 |[],[],_,_,_=>by simp[scl]
 |[],_::_,_,_,h=>by simp at h
 |_::_,[],_,_,h=>by simp at h
 |t::ts,u::us,t',u',h=>by
  have:=scl_snoc ts us t' u' (by simpa using h)
  simp only[List.cons_append,scl,this,List.append_assoc]
theorem scl_at:∀(ts:List Slt) (us:List Value) (i c:Nat),ts.length=us.length→i<ts.length→c<5→(scl ts us)[i*5+c]? =(srow (gs ts i) (gvs us i))[c]?
 |[],_,_,_,_,h,_=>by simp at h
 |_::_,[],_,_,h,_,_=>by simp at h
 |t::ts,u::us,0,c,_,_,hc=>by
  rw[scl,List.getElem?_append_left (by show 0*5+c<5;omega),Nat.zero_mul,Nat.zero_add];rfl
 |t::ts,u::us,i+1,c,h,hi,hc=>by
  have:=scl_at ts us i c (by simpa using h) (by simpa using hi) hc
  rw[scl,List.getElem?_append_right (by show 5≤(i+1)*5+c;omega),show(i+1)*5+c-(srow t u).length=i*5+c by show(i+1)*5+c-5=_;omega]
  exact this
theorem sll_of {w:World} {base:Nat} {v:Value} {ts:List Slt} {us:List Value} (hO:w.ownsRow base 88 5 v ts.length (scl ts us)) (hl:ts.length=us.length) (h16:ts.length≤10000) (hok:∀i,i<ts.length→Sok (gs ts i)) (hs:∀i,i<ts.length→SlL w (fun b=>base≤b) (gvs us i) (gs ts i).sub):SlL w (fun b=>base≤b) v ts:=by
 rcases hO.2 with⟨rfl,h0⟩|⟨g,cap,cur,rfl,h1,h2,h3,_⟩
 ·have e:ts=[]:=List.length_eq_zero_iff.1 h0
  subst e
  exact .mk none 0 [] us (by simp) (by simp) (fun _=>rfl) (fun i hi=>by simp at hi) (fun i hi=>by simp at hi)
 ·refine .mk (some ⟨g,0,none⟩) cap ts us (by omega) h3 (fun e=>by cases e) (fun i hi=>⟨g,0,rfl,(Array.getElem?_eq_some_iff.1 h2).1,h1,?_,hok i hi⟩) hs
  have hc:∀j u,(scl ts us)[j]? =some u→w.cell? ((⟨g,0,none⟩:Addr).add j)=some u:=hO.cells (g:=g) rfl
  intro j x hx;have hj:j<5:=(List.getElem?_eq_some_iff.1 hx).1
  have:=hc (i*5+j) x (by rw[scl_at ts us i j hl hi hj];exact hx)
  rw[add_off] at this;rw[Nat.zero_add];exact this
theorem wpList_append_sl {w:World} {ops:Array Oper} {rest:List Oper} {o:Oper} {a:Act} {Q:Exit→Act→World→Prop} (hgd:o.guard=none) (s x:Operand)
 (ho:o.op=.call {callee:=.builtin .append,args:=#[s,x],argTypes:=#[22,22]})
 (base:Nat) (v:Value) (k:Nat) (xs:List Value) (hs:a.eval s=v) (hO:w.ownsRow base 88 5 v k xs) (hk:k≤10000)
 (cs:List Value) (hcl:cs.length=5) (g:Nat) (hx:a.eval x=.slice (some ⟨g,0,none⟩) 1 1) (hnews:∀j y,cs[j]? =some y→w.cell? ((⟨g,0,none⟩:Addr).add j)=some y) (h1:∀u∈cs,u.oneCell'=true)
 (hbase:base≤w.heap.size)
 (h:∀v' w',w'.ownsRow base 88 5 v' (k+1) (xs++cs)→w.grownBy w' v.ownBlock→Nx w v v'→wpList Tryz.prog ops Q rest (a.put o.dst v') w'):wpList Tryz.prog ops Q (o::rest) a w:=by
 obtain⟨i0,hi,hz0,hz1,hz2⟩:=infoSl
 exact wpList_plain hgd fun _ hK=>wp_append_nx s x 22 ho base 88 i0 _ 5 56 Tryz.underlying22 hi hz0 hz1 hz2 rfl (by decide) v k xs hs hO ⟨g,0,none⟩ 1 1 cs hx (by rw[hcl]) hnews h1 (by unfold maxLen;omega) (by omega) hbase (fun v' w' h2 h3 h4=>hK _ _ (h v' w' h2 h3 h4))
theorem r_twin {W:World} {v:Value} {ts:List Slt} (h:Slo W v ts):∀(l:Int),l≤10000→0≤slL ts l→∀(w:World),Below W.heap.size W w→Calls Tryz.prog 45 #[v] w fun e w'=>∃v',e=.returned v'∧Below w.heap.size w w'∧SlL w' (fun b=>w.heap.size≤b) v' ts:=by
 induction h with
 |mk ao cap ts us hl hc hn h hs ih=>
  intro l hl1 hl2 w hw;have hlen:=slL_len ts l hl2
  have h4:ts.length≤10000:=by omega
  go_enter Tryz.func45,Tryz.ntmps45
  go_wp2_with (fail)
  go_loopw [3,4] (fun out i wr=>∃(k:Nat) (vs:List Value),k≤ts.length∧i=.int .i64 k∧Below w.heap.size w wr∧vs.length=k∧wr.ownsRow w.heap.size 88 5 out k (scl (ts.take k) vs)∧∀i,i<k→SlL wr (fun b=>w.heap.size≤b∧out.ownBlock≠some b) (gvs vs i) (gs ts i).sub) (fun _ i _=>ts.length-(intOf i).toNat)
  case atStart=>exact⟨0,[],by omega,rfl,Below.refl _ _,rfl,⟨rfl,.inl ⟨rfl,rfl⟩⟩,fun i hi=>by omega⟩
  case round=>
   obtain⟨k,vs,hk,rfl,hb,hvl,hO,hN⟩:=hrel;obtain⟨mo,mc,rfl⟩:=own_slice hO;have hww:=Below.after hw hb
   by_cases hlt:k<ts.length
   ·have hd:decide ((k:Int)<(ts.length:Int))=true:=by simp;omega
    have hk1:0≤(k:Int)∧(k:Int)<(ts.length:Int):=by omega
    obtain⟨b,off,hao,hbl,hra,hok⟩:=h k hlt;have hSl:=hs k hlt;obtain⟨l',hl3,hl4⟩:=slL_at ts l k hl2 hlt
    have hih:=ih k hlt l' (by omega) hl4
    subst hao
    have hgs:ts.take (k+1)=ts.take k++[gs ts k]:=by
     rw[List.take_succ_eq_append_getElem hlt,gs,List.getD_eq_getElem?_getD,List.getElem?_eq_getElem hlt];rfl
    obtain⟨ua,uc,hue⟩:=hSl.form;have hrw:=rangeS_keep2 hra hww hbl
    generalize hgt:gs ts k=t at *
    replace hgt:=hide hgt
    generalize gvs us k=u at *
    subst hue;have b0:=hrw 0 _ rfl;have b1:=hrw 1 _ rfl;have b2:=hrw 2 _ rfl;have b3:=hrw 3 _ rfl;have b4:=hrw 4 _ rfl;rw[Nat.add_zero] at b0;have r1:=hp1_0 wr (.cells #[.int .i64 t.no,.int .i64 t.kind,.int .u64 (t.least:Int),.int .u64 (t.most:Int),.slice ua t.sub.length uc] 88);have hba:Below wr.heap.size wr (wr.alloc (.cells #[.int .i64 t.no,.int .i64 t.kind,.int .u64 (t.least:Int),.int .u64 (t.most:Int),.slice ua t.sub.length uc] 88)):=(Below.refl _ _).alloc (Nat.le_refl _) _;have hs1:(wr.alloc (.cells #[.int .i64 t.no,.int .i64 t.kind,.int .u64 (t.least:Int),.int .u64 (t.most:Int),.slice ua t.sub.length uc] 88)).heap.size=wr.heap.size+1:=size_alloc1 _ _;have cT:=hih (wr.alloc (.cells #[.int .i64 t.no,.int .i64 t.kind,.int .u64 (t.least:Int),.int .u64 (t.most:Int),.slice ua t.sub.length uc] 88)) (Below.after hww hba);have A1:=hide r1;have A2:=hide hba;have A3:=hide hs1;have A4:=hide hO;have A5:=hide hN;have A6:=hide hb;clear h hs ih hra hrw r1 hba hs1 hO hN hb hww hih hSl
    go_wp2_with (fail)
    generalize (wr.alloc (.cells #[.int .i64 t.no,.int .i64 t.kind,.int .u64 (t.least:Int),.int .u64 (t.most:Int),.slice ua t.sub.length uc] 88))=w1 at *
    refine cT.mono ?_;rintro e_ w2 ⟨x,rfl,hb2,hx⟩;clear cT b0 b1 b2 b3 b4;obtain⟨xa,xc,rfl⟩:=hx.form;have hs1:=A3.out;have r2:=keep hb2 A1.out;have n4:w2.cell? ⟨wr.heap.size,4,none⟩=some (.slice ua t.sub.length uc):=cell_of_row _ _ _ _ _ _ r2;have n0:w2.cell? ⟨wr.heap.size,0,none⟩=some (.int .i64 t.no):=cell_of_row _ _ _ _ _ _ r2;have n1:w2.cell? ⟨wr.heap.size,1,none⟩=some (.int .i64 t.kind):=cell_of_row _ _ _ _ _ _ r2;have n2:w2.cell? ⟨wr.heap.size,2,none⟩=some (.int .u64 (t.least:Int)):=cell_of_row _ _ _ _ _ _ r2;have n3:w2.cell? ⟨wr.heap.size,3,none⟩=some (.int .u64 (t.most:Int)):=cell_of_row _ _ _ _ _ _ r2
    have z4:w2.frozen? ⟨wr.heap.size,4,none⟩=false:=by simp[World.frozen?,r2]
    have hbb:=Below.after A2.out hb2;have hs2:=hb2.size
    have hsS:(w2.setCell ⟨wr.heap.size,4,none⟩ (.slice xa t.sub.length xc)).heap.size=w2.heap.size:=by simp
    have hb3:Below wr.heap.size wr (w2.setCell ⟨wr.heap.size,4,none⟩ (.slice xa t.sub.length xc)):=hbb.setCell (Nat.le_refl _) _;have hB3:=Below.after A6.out hb3
    have hO3:=own_but (w':=(w2.setCell ⟨wr.heap.size,4,none⟩ (.slice xa t.sub.length xc))) A4.out fun q hq=>hb3.block q (own_lt A4.out q hq).2
    have hN3:∀i,i<k→SlL (w2.setCell ⟨wr.heap.size,4,none⟩ (.slice xa t.sub.length xc)) (fun b=>w.heap.size≤b∧(Value.slice mo k mc).ownBlock≠some b∧b<(w2.setCell ⟨wr.heap.size,4,none⟩ (.slice xa t.sub.length xc)).heap.size) (gvs vs i) (gs ts i).sub:=fun i hi=>(A5.out i hi).keep hb3.size fun q h1 h2=>⟨hb3.block q h1,h2.1,h2.2,by omega⟩
    have hown:=own_lt A4.out;have hwr:=A6.out.size
    have hx3:SlL (w2.setCell ⟨wr.heap.size,4,none⟩ (.slice xa t.sub.length xc)) (fun b=>w.heap.size≤b∧(Value.slice mo k mc).ownBlock≠some b∧b<(w2.setCell ⟨wr.heap.size,4,none⟩ (.slice xa t.sub.length xc)).heap.size) (.slice xa t.sub.length xc) t.sub:=hx.keep (by omega) fun q h1 h2=>⟨heap_setCell_other _ _ q _ (by show q≠wr.heap.size;omega),by omega,fun e=>by have:=(hown q e).2;omega,by omega⟩
    have hsz3:w.heap.size≤(w2.setCell ⟨wr.heap.size,4,none⟩ (.slice xa t.sub.length xc)).heap.size:=hB3.size;have A7:=hide hO3;have A8:=hide hN3;have A9:=hide hx3;have AA:=hide hB3;have AB:=hide hsz3;have AC:=hide hsS;clear hO3 hN3 hx3 hB3 hsz3 hb3 hbb hs2 hsS hb2 hx r2 A1 A2 A3 A4 A5 A6 hs1 hown hwr
    go_wp2_with (at_builtin;suffices h9:True∧_ from h9.2)
    refine⟨trivial,?_⟩
    generalize (w2.setCell ⟨wr.heap.size,4,none⟩ (.slice xa t.sub.length xc))=w3 at *
    clear n0 n1 n2 n3 n4 z4;have cN1:=hp1_0 w3 (.cells #[.int .i64 t.no,.int .i64 t.kind,.int .u64 (t.least:Int),.int .u64 (t.most:Int),.slice xa t.sub.length xc] 88)
    have hnc:∀j y,[.int .i64 t.no,.int .i64 t.kind,.int .u64 (t.least:Int),.int .u64 (t.most:Int),.slice xa t.sub.length xc][j]? =some y→(w3.alloc (.cells #[.int .i64 t.no,.int .i64 t.kind,.int .u64 (t.least:Int),.int .u64 (t.most:Int),.slice xa t.sub.length xc] 88)).cell? ((⟨w2.heap.size,0,none⟩:Addr).add j)=some y:=fun j y hy=>by
     rw[add_off,←AC.out,cell_of_row _ _ _ _ _ _ cN1]
     simpa using hy
    have hba2:Below w3.heap.size w3 (w3.alloc (.cells #[.int .i64 t.no,.int .i64 t.kind,.int .u64 (t.least:Int),.int .u64 (t.most:Int),.slice xa t.sub.length xc] 88)):=(Below.refl _ _).alloc (Nat.le_refl _) _
    have hO4:=own_but (w':=w3.alloc (.cells #[.int .i64 t.no,.int .i64 t.kind,.int .u64 (t.least:Int),.int .u64 (t.most:Int),.slice xa t.sub.length xc] 88)) A7.out fun q hq=>hba2.block q (own_lt A7.out q hq).2
    have hone:∀x∈([.int .i64 t.no,.int .i64 t.kind,.int .u64 (t.least:Int),.int .u64 (t.most:Int),.slice xa t.sub.length xc]:List Value),x.oneCell'=true:=fun x hx=>by
     simp at hx
     rcases hx with rfl|rfl|rfl|rfl|rfl<;>rfl
    have hwS:=AB.out
    refine wpList_append_sl rfl (.tmp 20) (.tmp 22) rfl w.heap.size _ k _ rfl hO4 (by omega) [.int .i64 t.no,.int .i64 t.kind,.int .u64 (t.least:Int),.int .u64 (t.most:Int),.slice xa t.sub.length xc] rfl w2.heap.size rfl hnc hone (by rw[size_alloc1];omega) ?_
    intro v' w4 h1 h2 h3;have hsA:(w3.alloc (.cells #[.int .i64 t.no,.int .i64 t.kind,.int .u64 (t.least:Int),.int .u64 (t.most:Int),.slice xa t.sub.length xc] 88)).heap.size=w3.heap.size+1:=size_alloc1 _ _;have hown:=own_lt A7.out
    have hB4:Below w.heap.size w w4:=(AA.out.trans (hba2.mono hwS)).grown h2 (by omega) (fun q hq=>(hown q hq).1)
    have hs34:w3.heap.size≤w4.heap.size:=Nat.le_trans hba2.size h2.size
    have hS4:∀q,q<w3.heap.size→(w.heap.size≤q∧(Value.slice mo k mc).ownBlock≠some q∧q<w3.heap.size)→w4.heap[q]? =w3.heap[q]?∧(w.heap.size≤q∧v'.ownBlock≠some q):=fun q h4 h5=>
     ⟨(h2.block q (by omega) (fun e=>h5.2.1 e.symm)).trans (hba2.block q h4),h5.1,h3.ne (by omega) h5.2.1⟩
    have hN4:∀i,i<k+1→SlL w4 (fun b=>w.heap.size≤b∧v'.ownBlock≠some b) (gvs (vs++[.slice xa t.sub.length xc]) i) (gs ts i).sub:=fun i hi=>by
     rcases Nat.lt_or_ge i k with h6|h6
     ·rw[gvs_low _ _ _ (by omega)]
      exact(A8.out i h6).keep hs34 hS4
     ·have h7:i=k:=by omega
      subst h7
      rw[gvs_top _ _ _ hvl,hgt.out];exact A9.out.keep hs34 hS4
    have hO5:w4.ownsRow w.heap.size 88 5 v' (k+1) (scl (ts.take (k+1)) (vs++[.slice xa t.sub.length xc])):=by
     rw[hgs,scl_snoc _ _ _ _ (by rw[List.length_take];omega)]
     exact h1
    obtain⟨no',co',hv'⟩:=own_slice h1;subst hv';clear h1 h2 h3 hO4 hba2 hnc cN1 hS4 hown hone A7 A8 A9 AA AB hgs
    go_wp2_with (fail)
    refine⟨⟨k+1,vs++[.slice xa t.sub.length xc],by omega,by go_num,hB4,by simp;omega,hO5,hN4⟩,?_⟩
    simp[intOf];omega
   ·have hd:decide ((k:Int)<(ts.length:Int))=false:=by simp;omega
    have hkl:k=ts.length:=by omega
    subst hkl;rw[List.take_length] at hO
    have hm:=sll_of hO hvl.symm h4 (fun i hi=>(h i hi).elim fun _ q=>q.elim fun _ q=>q.2.2.2) (fun i hi=>(hN i hi).keep (Nat.le_refl _) fun b _ hb=>⟨rfl,hb.1⟩)
    clear h hs ih hN hvl hO
    go_wp2_with (fail)
    go_ret;exact⟨_,rfl,hb,hm⟩
end Go.Proofs.YtmmlkfkpblokiaaGreatDoor
