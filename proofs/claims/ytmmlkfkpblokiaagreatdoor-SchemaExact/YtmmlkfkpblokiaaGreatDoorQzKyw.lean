import Derived.Test.YtmmlkfkpblokiaaGreatDoorQzKyr
set_option maxRecDepth 100000
set_option maxHeartbeats 16000000
namespace Go.Proofs.YtmmlkfkpblokiaaGreatDoor
open Go Go.RowKit Go.Sort
attribute [local go_sem] setCell_drewN alloc_drewN
theorem rdE_why {a E:Int} {x:Flt3} (h:rdE a E=some x):x.why≠0:=by
 unfold rdE at h
 split at h
 ·cases h
 ·rename_i hE
  injection h with h;subst h;exact hE
theorem it_why {dec:List B→Int→Option Flt3} (hd:∀b f x,dec b f=some x→x.why≠0):∀(bs:List (List B)) (f:Int) (x:Flt3),itN dec bs f=some x→x.why≠0
 |[],_,_,h=>by rw[itN] at h;cases h
 |b::bs,f,x,h=>by
  rw[itN] at h
  split at h
  ·rename_i e he
   injection h with h;subst h
   exact hd _ _ _ he
  ·exact it_why hd bs _ x h
theorem ls_why {dec:List B→Int→Option Flt3} (hd:∀b f x,dec b f=some x→x.why≠0) (l m:Nat) (d:List B) (a b:Int) (x:Flt3) (h:lsN l m dec d a b=some x):x.why≠0:=by
 unfold lsN at h
 split at h
 ·rename_i q;injection h with h;subst h;exact q
 split at h
 ·rename_i q;injection h with h;subst h;exact q
 ·exact it_why hd _ _ _ h
theorem rdN_why {dec:List B→Int→Option Flt3} (hd:∀b f x,dec b f=some x→x.why≠0) (k:Int) (l m:Nat) (f:Fd) (a:Int) (x:Flt3) (h:rdN utD flD k l m dec f a=some x):x.why≠0:=by
 unfold rdN at h
 split at h
 ·exact hd _ _ _ h
 split at h
 ·exact ls_why hd _ _ _ _ _ _ h
 ·exact rdE_why h
theorem decN_why {g:List Fd→Int→Option Flt3} (hg:∀fs a x,g fs a=some x→x.why≠0) (b:List B) (f:Int) (x:Flt3) (h:decN g b f=some x):x.why≠0:=by
 unfold decN at h
 split at h
 ·rename_i q;injection h with h;subst h;exact q
 ·exact hg _ _ _ h
theorem dc_why:∀(ts:List Slt) (fs:List Fd) (a:Int) (x:Flt3),dcT utD flD ts fs a=some x→x.why≠0
 |[],[],_,_,h=>by rw[dcT] at h;cases h
 |[],_::_,_,_,h=>by rw[dcT] at h;injection h with h;subst h;show(81:Int)≠0;decide
 |t::_,[],_,_,h=>by cases t;rw[dcT] at h;injection h with h;subst h;show(81:Int)≠0;decide
 | .mk no k l m sub::ts,f::fs,a,x,h=>by
  rw[dcT] at h
  have hm:∀b f x,decN (dcT utD flD sub) b f=some x→x.why≠0:=decN_why (fun fs a x=>dc_why sub fs a x)
  split at h
  ·rename_i e he
   injection h with h;subst h
   unfold dsN at he
   split at he
   ·injection he with he;subst he;show(81:Int)≠0;decide
   split at he
   ·injection he with he;subst he;show(82:Int)≠0;decide
   ·exact rdN_why hm _ _ _ _ _ _ he
  ·exact dc_why ts fs _ x h
theorem de_why {ts:List Slt} (b:List B) (f:Int) (x:Flt3) (h:deT utD flD ts b f=some x):x.why≠0:=decN_why (fun fs a x=>dc_why ts fs a x) b f x h
theorem rd_why {t:Slt} {f:Fd} {a:Int} {x:Flt3} (h:rdT utD flD t f a=some x):x.why≠0:=rdN_why (fun b f x=>de_why b f x) _ _ _ _ _ _ h
theorem pl_ft {t:Slt} (h8:t.kind≠8) (h9:t.kind≠9) (hf:sfit t=true) {f:Fd} (hty:f.ty=wtA t.kind) (hfit:fits f):plT t (.mk f.num f.dat [])=ftN utD flD t.kind t.least t.most f:=by
 have hb:pbad (isB t.kind) f.num f.dat.length 0=false:=by
  unfold fits at hfit;rw[hty] at hfit;unfold wtA at hfit;unfold pbad isB
  have hk:t.kind=1∨t.kind=2∨t.kind=3∨t.kind=4∨t.kind=5∨t.kind=6∨t.kind=7:=by
   rcases fit_cases hf with q|q|q|q|q|q|q|q<;>omega
  rcases hk with q|q|q|q|q|q|q<;>rw[q] at hfit⊢<;>simp at hfit⊢<;>simp[hfit]
 unfold plT ftN;rw[if_neg h9]
 show(if pbad (isB t.kind) f.num f.dat.length 0=true then(84:Int) else _)=_
 rw[hb];rfl
theorem r_valueP (no k l m:Int) (hk8:k≠8) (hk9:k≠9) (so:Option Addr) (sn sc:Nat) (fno fty:Int) (num:Nat) (da:Option Addr) (dl dc:Nat) (here data E:Int) (w:World)
 (cP:∀W,Below w.heap.size w W→Calls Tryz.prog 75 #[.agg #[.int .i64 no,.int .i64 k,.int .u64 l,.int .u64 m,.slice so sn sc],.agg #[.int .u64 (num:Int),.slice da dl dc,nS]] W fun e w'=>e=.returned (.int .i64 E)∧Below W.heap.size W w'):
 Calls Tryz.prog 63 #[.agg #[.int .i64 no,.int .i64 k,.int .u64 l,.int .u64 m,.slice so sn sc],.agg #[.int .i64 fno,.int .i64 fty,.int .u64 (num:Int),.slice da dl dc],.int .i64 here,.int .i64 data] w fun e w'=>∃v,e=.returned v∧v=(if E=0 then .tuple #[.agg #[.int .u64 (num:Int),.slice da dl dc,nS],.agg #[.int .i64 0,.int .i64 0,.int .i64 0]] else .tuple #[.agg #[.int .u64 0,nS,nS],.agg #[.int .i64 0,.int .i64 here,.int .i64 E]])∧Below w.heap.size w w':=by
 have RS:=hp2_0 w (.cells #[.int .i64 no,.int .i64 k,.int .u64 l,.int .u64 m,.slice so sn sc] 88) (.cells #[.int .i64 fno,.int .i64 fty,.int .u64 (num:Int),.slice da dl dc] 118);have RF:=hp2_1 w (.cells #[.int .i64 no,.int .i64 k,.int .u64 l,.int .u64 m,.slice so sn sc] 88) (.cells #[.int .i64 fno,.int .i64 fty,.int .u64 (num:Int),.slice da dl dc] 118)
 have hw:Below w.heap.size w ((w.alloc (.cells #[.int .i64 no,.int .i64 k,.int .u64 l,.int .u64 m,.slice so sn sc] 88)).alloc (.cells #[.int .i64 fno,.int .i64 fty,.int .u64 (num:Int),.slice da dl dc] 118)):=((Below.refl _ _).alloc (Nat.le_refl _) _).alloc (by simp) _
 have hsz:((w.alloc (.cells #[.int .i64 no,.int .i64 k,.int .u64 l,.int .u64 m,.slice so sn sc] 88)).alloc (.cells #[.int .i64 fno,.int .i64 fty,.int .u64 (num:Int),.slice da dl dc] 118)).heap.size=w.heap.size+1+1:=by simp
 have hb2:Below ((w.alloc (.cells #[.int .i64 no,.int .i64 k,.int .u64 l,.int .u64 m,.slice so sn sc] 88)).alloc (.cells #[.int .i64 fno,.int .i64 fty,.int .u64 (num:Int),.slice da dl dc] 118)).heap.size ((w.alloc (.cells #[.int .i64 no,.int .i64 k,.int .u64 l,.int .u64 m,.slice so sn sc] 88)).alloc (.cells #[.int .i64 fno,.int .i64 fty,.int .u64 (num:Int),.slice da dl dc] 118)) ((((w.alloc (.cells #[.int .i64 no,.int .i64 k,.int .u64 l,.int .u64 m,.slice so sn sc] 88)).alloc (.cells #[.int .i64 fno,.int .i64 fty,.int .u64 (num:Int),.slice da dl dc] 118)).alloc (.cells #[.int .u64 0,nS,nS] 27)).alloc (.cells #[.int .i64 0,.int .i64 0,.int .i64 0] 41)):=((Below.refl _ _).alloc (Nat.le_refl _) _).alloc (by simp) _
 have RV:=hp2_0 ((w.alloc (.cells #[.int .i64 no,.int .i64 k,.int .u64 l,.int .u64 m,.slice so sn sc] 88)).alloc (.cells #[.int .i64 fno,.int .i64 fty,.int .u64 (num:Int),.slice da dl dc] 118)) (.cells #[.int .u64 0,nS,nS] 27) (.cells #[.int .i64 0,.int .i64 0,.int .i64 0] 41);have RE:=hp2_1 ((w.alloc (.cells #[.int .i64 no,.int .i64 k,.int .u64 l,.int .u64 m,.slice so sn sc] 88)).alloc (.cells #[.int .i64 fno,.int .i64 fty,.int .u64 (num:Int),.slice da dl dc] 118)) (.cells #[.int .u64 0,nS,nS] 27) (.cells #[.int .i64 0,.int .i64 0,.int .i64 0] 41);rw[hsz] at RV RE;replace RS:=keep hb2 RS;replace RF:=keep hb2 RF;replace hw:=Below.after hw hb2
 have oneV:(#[Value.int .u64 0,nS,nS]:Array Value).all (·.oneCell')=true:=by simp[Value.oneCell']
 have oneN:(#[Value.int .u64 (num:Int),.slice da dl dc,nS]:Array Value).all (·.oneCell')=true:=by simp[Value.oneCell']
 have oneZ:(#[Value.int .i64 0,.int .i64 0,.int .i64 0]:Array Value).all (·.oneCell')=true:=by simp[Value.oneCell']
 have oneE:(#[Value.int .i64 0,.int .i64 here,.int .i64 E]:Array Value).all (·.oneCell')=true:=by simp[Value.oneCell']
 clear hb2 hsz
 go_enter Tryz.func63,Tryz.ntmps63
 go_upto_region 1 with(first|(refine wpList_box rfl 88 _ rfl _ rfl (bSl _) ?_)|(refine wpList_box rfl 118 _ rfl _ rfl (bFld _) ?_)|fail)
 generalize (((w.alloc (.cells #[.int .i64 no,.int .i64 k,.int .u64 l,.int .u64 m,.slice so sn sc] 88)).alloc (.cells #[.int .i64 fno,.int .i64 fty,.int .u64 (num:Int),.slice da dl dc] 118)).alloc (.cells #[.int .u64 0,nS,nS] 27)).alloc (.cells #[.int .i64 0,.int .i64 0,.int .i64 0] 41)=w4 at *
 have ck:=cell_of_row _ _ 1 _ _ _ RS;have c2:=cell_of_row _ _ 2 _ _ _ RF;have c3:=cell_of_row _ _ 3 _ _ _ RF;have RN:=hp1_0 w4 (.cells #[.int .u64 (num:Int),.slice da dl dc,nS] 27);have hb5:Below w4.heap.size w4 (w4.alloc (.cells #[.int .u64 (num:Int),.slice da dl dc,nS] 27)):=(Below.refl _ _).alloc (Nat.le_refl _) _
 have d8:decide (k=8)=false:=by simpa using hk8
 have d9:decide (k=9)=false:=by simpa using hk9
 go_upto_region 5 with(fail)
 try simp only[Act.put,ZPd,ZPe,ZPf]
 clear ck c2 c3;replace RS:=keep hb5 RS;replace RF:=keep hb5 RF;replace RV:=keep hb5 RV;replace RE:=keep hb5 RE;replace hw:=Below.after hw hb5;clear hb5
 generalize w4.alloc (.cells #[.int .u64 (num:Int),.slice da dl dc,nS] 27)=w6 at *
 generalize w4.heap.size=gn at *
 have cP6:=hide (cP w6 hw);clear cP
 go_wp2_with (first|(refine wpList_load_want rfl 88 _ rfl (w.heap.size) rfl 88 #[.int .i64 no,.int .i64 k,.int .u64 l,.int .u64 m,.slice so sn sc] (0,0) _ RS Tryz.underlying88 rfl infoSlt ?_)|(refine wpList_load_want rfl 27 _ rfl gn rfl 27 #[.int .u64 (num:Int),.slice da dl dc,nS] (0,0) _ RN Tryz.underlying27 rfl infoV ?_)|fail)
 refine cP6.out.mono ?_;rintro e_ w7 ⟨rfl,hb_⟩;replace RN:=keep hb_ RN;replace RV:=keep hb_ RV;replace RE:=keep hb_ RE;replace hw:=Below.after hw hb_;clear hb_ cP6 RS RF
 by_cases hE:E=0
 ·subst hE
  have R8:=RV
  have R9:=RE
  go_upto_region 8 with(fail)
  go_wp2_with (first|(refine wpList_load_want rfl 27 _ rfl gn rfl 27 #[.int .u64 (num:Int),.slice da dl dc,nS] (0,0) _ RN Tryz.underlying27 rfl infoV ?_)|(refine wpList_build_want rfl 41 _ rfl [] rfl #[.int .i64 0,.int .i64 0,.int .i64 0] builtZeR ?_)|(refine wpList_store_row rfl 27 _ _ rfl (w.heap.size+1+1) #[.int .u64 (num:Int),.slice da dl dc,nS] rfl rfl 27 _ RV infoV rfl oneN ?_)|(refine wpList_store_row rfl 41 _ _ rfl (w.heap.size+1+1+1) #[.int .i64 0,.int .i64 0,.int .i64 0] rfl rfl 41 _ ((setRow_other w7 (w.heap.size+1+1) (w.heap.size+1+1+1) #[.int .u64 (num:Int),.slice da dl dc,nS] (by omega)).trans RE) infoFt rfl oneZ ?_)|fail)
  clear R8 R9
  replace RE:=(setRow_other w7 (w.heap.size+1+1) (w.heap.size+1+1+1) #[.int .u64 (num:Int),.slice da dl dc,nS] (by omega)).trans RE
  replace RV:=setRow_heap w7 (w.heap.size+1+1) _ (#[.int .u64 (num:Int),.slice da dl dc,nS]) _ _ RV
  replace hw:=below_setRow hw (show w.heap.size≤w.heap.size+1+1 by omega) #[.int .u64 (num:Int),.slice da dl dc,nS]
  generalize w7.setRow (w.heap.size+1+1) #[.int .u64 (num:Int),.slice da dl dc,nS]=w8 at *
  replace RV:=(setRow_other w8 (w.heap.size+1+1+1) (w.heap.size+1+1) #[.int .i64 0,.int .i64 0,.int .i64 0] (by omega)).trans RV
  replace RE:=setRow_heap w8 (w.heap.size+1+1+1) _ (#[.int .i64 0,.int .i64 0,.int .i64 0]) _ _ RE
  replace hw:=below_setRow hw (show w.heap.size≤w.heap.size+1+1+1 by omega) #[.int .i64 0,.int .i64 0,.int .i64 0]
  exact bodyPost_ret (v:=.tuple #[.agg #[.int .u64 (num:Int),.slice da dl dc,nS],.agg #[.int .i64 0,.int .i64 0,.int .i64 0]]) (results_cell_cell Tryz.results63 _ _ (w.heap.size+1+1) (w.heap.size+1+1+1) _ _ _ _ _ _ _ _ rfl RV Tryz.underlying27 rfl infoV rfl RE Tryz.underlying41 rfl infoFt) rfl ⟨_,rfl,rfl,hw⟩
 ·have dE:decide (E=0)=false:=by simpa using hE
  have cA:=hide (r_at here E w7)
  go_wp2_with (first|(refine wpList_build_want rfl 27 _ rfl [] rfl #[.int .u64 0,nS,nS] builtZvR ?_)|fail)
  refine cA.out.mono ?_;rintro e_ w8 ⟨rfl,hb_⟩;replace RV:=keep hb_ RV;replace RE:=keep hb_ RE;replace hw:=Below.after hw hb_;clear hb_ cA RN
  go_wp2_with (first|(refine wpList_store_row rfl 27 _ _ rfl (w.heap.size+1+1) #[.int .u64 0,nS,nS] rfl rfl 27 _ RV infoV rfl oneV ?_)|(refine wpList_store_row rfl 41 _ _ rfl (w.heap.size+1+1+1) #[.int .i64 0,.int .i64 here,.int .i64 E] rfl rfl 41 _ ((setRow_other w8 (w.heap.size+1+1) (w.heap.size+1+1+1) #[.int .u64 0,nS,nS] (by omega)).trans RE) infoFt rfl oneE ?_)|fail)
  replace RE:=(setRow_other w8 (w.heap.size+1+1) (w.heap.size+1+1+1) #[.int .u64 0,nS,nS] (by omega)).trans RE
  replace RV:=setRow_heap w8 (w.heap.size+1+1) _ (#[.int .u64 0,nS,nS]) _ _ RV
  replace hw:=below_setRow hw (show w.heap.size≤w.heap.size+1+1 by omega) #[.int .u64 0,nS,nS]
  generalize w8.setRow (w.heap.size+1+1) #[.int .u64 0,nS,nS]=w9 at *
  replace RV:=(setRow_other w9 (w.heap.size+1+1+1) (w.heap.size+1+1) #[.int .i64 0,.int .i64 here,.int .i64 E] (by omega)).trans RV
  replace RE:=setRow_heap w9 (w.heap.size+1+1+1) _ (#[.int .i64 0,.int .i64 here,.int .i64 E]) _ _ RE
  replace hw:=below_setRow hw (show w.heap.size≤w.heap.size+1+1+1 by omega) #[.int .i64 0,.int .i64 here,.int .i64 E]
  exact bodyPost_ret (v:=.tuple #[.agg #[.int .u64 0,nS,nS],.agg #[.int .i64 0,.int .i64 here,.int .i64 E]]) (results_cell_cell Tryz.results63 _ _ (w.heap.size+1+1) (w.heap.size+1+1+1) _ _ _ _ _ _ _ _ rfl RV Tryz.underlying27 rfl infoV rfl RE Tryz.underlying41 rfl infoFt) rfl ⟨_,rfl,rfl,hw⟩
theorem r_valueT {t:Slt} (hf:sfit t=true) (so:Option Addr) (sn sc:Nat) (P:Nat→Prop) (f:Fd) (da:Option Addr) (dc:Nat) (at_:Int) (w:World) (hF:Fdk w P f da dc at_) (hty:f.ty=wtA t.kind) (hfit:fits f)
 (hsub:nst t→∀V b bv q,Below w.heap.size w V→BysB V bv b→(∀a l c,bv=.slice a l c→l≤c)→0≤q→q+(b.length:Int)≤1152921504606846976→Calls Tryz.prog 39 #[.slice so sn sc,bv,.int .i64 q] V (VaQ V (fun b=>V.heap.size≤b) (deT utD flD t.sub b q) (mgT t.sub b))):
 Calls Tryz.prog 63 #[.agg (slr t (.slice so sn sc)),.agg #[.int .i64 f.no,.int .i64 f.ty,.int .u64 (f.num:Int),.slice da f.dat.length dc],.int .i64 at_,.int .i64 (at_+((fby f).length:Int)-(f.dat.length:Int))] w (VaQ w (fun b=>P b∨w.heap.size≤b) (rdT utD flD t f at_) (vlS t f)):=by
 have ha0:=hF.a0;have ha1:=hF.a1;have hfb:=hF.fb
 by_cases h8:t.kind=8
 ·have hty2:f.ty=2:=by rw[hty,h8];rfl
  have hle:=fby_dat hty2
  have e1:rdT utD flD t f at_=deT utD flD t.sub f.dat (at_+((fby f).length:Int)-(f.dat.length:Int)):=by unfold rdT rdN;rw[if_pos h8]
  have e2:vlS t f=mgT t.sub f.dat:=by unfold vlS vlN;rw[if_pos h8]
  rw[e1,e2];unfold slr;rw[h8]
  exact r_value8 P t.no _ _ so sn sc f.no f.ty f.num da f.dat.length dc at_ _ w _ _ (fun V hV=>hsub (.inl h8) V f.dat _ _ hV (hF.hB.keep hV) (fun a l c q=>by cases q;exact hF.hc) (by omega) (by omega))
 by_cases h9:t.kind=9
 ·have hty2:f.ty=2:=by rw[hty,h9];rfl
  have hle:=fby_dat hty2
  have e1:rdT utD flD t f at_=lsN t.least t.most (deT utD flD t.sub) f.dat at_ (at_+((fby f).length:Int)-(f.dat.length:Int)):=by unfold rdT rdN;rw[if_neg (by omega),if_pos h9]
  have e2:vlS t f=.mk 0 [] ((spp (sp f.dat)).map (mgT t.sub)):=by unfold vlS vlN;rw[if_neg (by omega),if_pos h9]
  rw[e1,e2];unfold slr;rw[h9]
  exact r_value9 P t.no t.least t.most so sn sc f.no f.ty f.num f.dat da dc at_ _ w _ _ hF.hB hF.hc (by omega) (by omega) (by omega) (fun b f x=>de_why b f x) (fun V b bv q hV hB hc h0 h1=>hsub (.inr h9) V b bv q hV hB hc h0 h1)
 ·have e1:rdT utD flD t f at_=rdE at_ (plT t (.mk f.num f.dat [])):=by unfold rdT rdN;rw[if_neg h8,if_neg h9,pl_ft h8 h9 hf hty hfit]
  have e2:vlS t f=.mk f.num f.dat []:=by unfold vlS vlN;rw[if_neg h8,if_neg h9]
  rw[e1,e2];unfold slr
  refine(r_valueP t.no t.kind t.least t.most h8 h9 so sn sc f.no f.ty f.num da f.dat.length dc at_ _ (plT t (.mk f.num f.dat [])) w (fun V hV=>r_plainT h8 hf so sn sc (plain_tree (Q:=fun _=>True) hF (Below.refl _ _) (fun _ _=>trivial)).1 V hV)).mono ?_
  rintro e w' ⟨v,rfl,hv,hb⟩;unfold VaQ rdE;refine⟨?_,hb⟩
  by_cases hE:plT t (.mk f.num f.dat [])=0
  ·rw[if_pos hE] at hv⊢
   exact⟨⟨f.num,da,f.dat.length,dc,none,0,0⟩,by rw[hv];rfl,plain_tree hF hb (fun b hb_=>.inl hb_)⟩
  ·rw[if_neg hE] at hv⊢
   rw[hv]
   rfl
end Go.Proofs.YtmmlkfkpblokiaaGreatDoor
