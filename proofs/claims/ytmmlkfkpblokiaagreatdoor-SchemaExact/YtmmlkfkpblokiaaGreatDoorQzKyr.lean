import Derived.Test.YtmmlkfkpblokiaaGreatDoorQzWv
set_option maxRecDepth 100000
set_option maxHeartbeats 16000000
namespace Go.Proofs.YtmmlkfkpblokiaaGreatDoor
open Go Go.RowKit Go.Sort
attribute [local go_sem] setCell_drewN alloc_drewN
def VaQ (w:World) (S:Nat→Prop) (F:Option Flt3) (X:VT) (e:Ending) (w':World):Prop:=(match F with
 |some x=>e=.returned (.tuple #[.agg #[.int .u64 0,nS,nS],.agg (frw x)])
 |none=>∃x,e=.returned (.tuple #[.agg (vrv x),.agg #[.int .i64 0,.int .i64 0,.int .i64 0]])∧VtO w' S x X)∧Below w.heap.size w w'
theorem vtm_upto {W:World} {S:Nat→Prop} {x:VR} {X:VT} (h:VtO W S x X):VtO W (fun b=>S b∧b<W.heap.size) x X:=h.keep ⟨Nat.le_refl _,fun _ hb hS=>⟨rfl,hS,hb⟩⟩
theorem PaW.oth {W:World} {lo base:Nat} {v:Value} {xs:List VR} {ps:List VT} (h:PaW W lo base v xs ps) (g:Nat) (cs:Array Value) (h1:g<lo) (h2:g<base):PaW (W.setRow g cs) lo base v xs ps:=
 ⟨own_but h.1 (fun q hq=>setRow_other W g q cs (by have:=(own_high_row h.1 q hq).1;omega)),h.2.1,fun i hi=>(h.2.2 i hi).other g cs (fun b hb_=>⟨by omega,hb_⟩)⟩
theorem wth_83 {n l m:Int} (h:wth n l m≠0):wth n l m=83:=by
 unfold wth at h⊢
 split<;>simp_all
theorem cell_ltq {W:World} {p:Addr} {v:Value} (h:W.cell? p=some v):p.block<W.heap.size:=by
 rcases Nat.lt_or_ge p.block W.heap.size with q|q
 ·exact q
 ·exfalso
  have e:W.heap[p.block]? =none:=Array.getElem?_eq_none q
  simp[World.cell?,e] at h
theorem sp_fit (d:List B) (h:spe (sp d)=0):(spp (sp d)).length≤4096∧jn (spp (sp d))=d:=by
 unfold sp at h⊢
 by_cases hb:4194304<d.length
 ·rw[if_pos hb] at h
  exact absurd h (by decide)
 ·rw[if_neg hb] at h⊢
  cases hr:spl d.length 0 0 d with
  |ok ps=>
   have q:=spl_ok _ _ _ _ _ (Nat.le_refl _) (by omega) hr
   exact⟨by show ps.length≤4096;omega,q.1⟩
  |er e p=>
   exfalso
   rw[hr] at h;exact(spl_er_b _ _ _ _ _ _ hr).1 h
section
variable {P : Program} {ops : Array Oper} {Q : Exit → Act → World → Prop} {md : Region.Mode} {S : World → Prop}
theorem wpAnyH_threeY {j k l:Nat} {oj ok ol:Oper} {fuel:Nat} {listed:Array Bool} {a:Act} {w:World} (hr:Region.ready md ops listed=[j,k,l]) (hj:ops[j]? =some oj) (hk:ops[k]? =some ok) (hl:ops[l]? =some ol) (wj:Region.wanted oj (yielded ops a.tmps)=true) (wk:Region.wanted ok (yielded ops a.tmps)=true) (wl:Region.wanted ol (yielded ops a.tmps)=true)
 (h1:∀K:Act→World→Prop,(∀a' w',S w'→wpAnyH P md ops Q S fuel (listed.setIfInBounds j true) a' w'→K a' w')→oj.wp P a w K Q)
 (h2:∀K:Act→World→Prop,(∀a' w',S w'→wpAnyH P md ops Q S fuel (listed.setIfInBounds k true) a' w'→K a' w')→ok.wp P a w K Q)
 (h3:∀K:Act→World→Prop,(∀a' w',S w'→wpAnyH P md ops Q S fuel (listed.setIfInBounds l true) a' w'→K a' w')→ol.wp P a w K Q):wpAnyH P md ops Q S (fuel+1) listed a w:=by
 refine wpAnyH_all hr (by simp) (fun i hi'=>?_)
 obtain rfl|rfl|rfl:i=j∨i=k∨i=l:=by simpa using hi'
 ·unfold wpOp
  simp only[hj,wj,if_true]
  exact .inl (h1 _ (fun a' w' hS hn=>⟨hS,hn⟩))
 ·unfold wpOp
  simp only[hk,wk,if_true]
  exact .inl (h2 _ (fun a' w' hS hn=>⟨hS,hn⟩))
 ·unfold wpOp
  simp only[hl,wl,if_true]
  exact .inl (h3 _ (fun a' w' hS hn=>⟨hS,hn⟩))
end
theorem run_storeVar_cellY {P:Program} (w:World) (g off:Nat) (ty:TypeId) (v:Value) (ht:w.there g off 1) (hi:(P.info? ty).map (·.size)=some 1) (h1:v.oneCell'=true):(storeVar ty ⟨g,off,none⟩ v).run P w=.ok () (w.setCells g off [v]):=by
 have:=run_storeCells_cells (P:=P) g off [v] 0 w (fun j hj=>by simpa using(ht j (by simpa using hj)).1) (fun j hj=>by simpa using(ht j (by simpa using hj)).2) (fun u hu=>by simp at hu;subst hu;exact h1)
 have hc:v.cells=#[v]:=by cases v<;>first|rfl|cases h1
 cases hq:P.info? ty with
 |none=>simp[hq] at hi
 |some i=>
  have hs:i.size=1:=by simpa[hq] using hi
  simp only[Nat.add_zero] at this
  simp[storeVar,sizeOf,typeInfo,hq,hc,hs,this]
theorem wpList_store_cellY {P:Program} {ops:Array Oper} {rest:List Oper} {o:Oper} {a:Act} {w:World} {Q:Exit→Act→World→Prop} (hgd:o.guard=none) (ty:TypeId) (x y:Operand) (ho:o.op=.store ty x y)
 (g off:Nat) (v:Value) (hx:a.eval x=.pointer (some ⟨g,off,none⟩)) (hy:a.eval y=v) (t:TypeId) (old new:Array Value) (hg:w.heap[g]? =some (.cells old t (0,0))) (hlt:off<old.size) (hnew:old.setIfInBounds off v=new)
 (hi:(P.info? ty).map (·.size)=some 1) (h1:v.oneCell'=true)
 (h:wpList P ops Q rest (a.put o.dst undef) (w.setRow g new)):wpList P ops Q (o::rest) a w:=by
 refine wpList_plain hgd fun _ hK=>?_
 unfold Oper.wp execOp;simp only[ho,hx,hy,Instr.storeAt,Instr.sureAddr,Sem.run_bind,Sem.run_pure,Result.andThen_ok,run_storeVar_cellY w g off ty v (there_row hg hlt) hi h1];refine hK _ _ ?_;rw[setCells_eq [v] off w old hg];have e:ovw old off [v]=new:=hnew;rw[e];exact h
theorem mv_rangeY {W V:World} {b o:Nat} {cs:List Value} (h:W.rangeAt b o cs) (hb:V.heap[b]? =W.heap[b]?):V.rangeAt b o cs:=fun j v hv=>(World.cell?_of_block hb).trans (h j v hv)
theorem infoVSY:(Tryz.prog.info? 25).map (·.size)=some 1:=by kernel_rfl
def valU (F:Option Flt3) (X:VT):VT:=match F with
 |none=>X
 |some _=>.mk 0 [] []
theorem vto_zero (W:World) (S:Nat→Prop):VtO W S ⟨0,none,0,0,none,0,0⟩ (.mk 0 [] []):=by
 have hB0:BysB W nS ([]:List B):=⟨⟨none,0,rfl,by decide,fun j hj=>by simp[bl] at hj,by simp[bl]⟩,by decide,fun a l c e _=>by cases e;rfl⟩
 exact⟨.mk ⟨0,none,0,0,none,0,0⟩ [] [] [] (by show 0<18446744073709551616;decide) rfl (by decide) hB0 (Nat.le_refl _) (fun a e=>by cases lv_some e) rfl rfl (Nat.le_refl _) (by decide) (fun a e=>by cases lv_some e) (fun i hi=>by simp at hi) (fun i hi=>by simp at hi),1,wip_nil ⟨0,by decide,rfl⟩ 0⟩
theorem flr_three (F:Option Flt3):∃a b c:Int,flr F=#[.int .i64 a,.int .i64 b,.int .i64 c]:=by
 cases F with
 |none=>exact⟨0,0,0,rfl⟩
 |some f=>exact⟨f.line,f.at_,f.why,rfl⟩
theorem flr_some {f:Flt3} {a b c:Int} (h:flr (some f)=#[.int .i64 a,.int .i64 b,.int .i64 c]):f=⟨a,b,c⟩:=by
 obtain⟨x,y,z⟩:=f
 simp[flr,frw] at h
 obtain⟨h1,h2,h3⟩:=h;rw[h1,h2,h3]
theorem flr_none {a b c:Int} (h:flr none=#[.int .i64 a,.int .i64 b,.int .i64 c]):a=0∧b=0∧c=0:=by
 simp[flr] at h
 exact⟨h.1.symm,h.2.1.symm,h.2.2.symm⟩
theorem VaQ.u {w:World} {S:Nat→Prop} {F:Option Flt3} {X:VT} {e:Ending} {w':World} (h:VaQ w S F X e w'):∃v,e=.returned v∧(∃x a b c,v=.tuple #[.agg (vrv x),.agg #[.int .i64 a,.int .i64 b,.int .i64 c]]∧VtO w' S x (valU F X)∧flr F=#[.int .i64 a,.int .i64 b,.int .i64 c])∧Below w.heap.size w w':=by
 obtain⟨h1,h2⟩:=h
 cases F with
 |none=>obtain⟨x,rfl,hx⟩:=h1;exact⟨_,rfl,⟨x,0,0,0,rfl,hx,rfl⟩,h2⟩
 |some f=>obtain rfl:=h1;exact⟨_,rfl,⟨⟨0,none,0,0,none,0,0⟩,f.line,f.at_,f.why,rfl,vto_zero _ _,rfl⟩,h2⟩
theorem ecutQ4 {G:Prop} {A:VR→Int→Int→Int→Nat→Nat→World→Prop} (T:VR→Int→Int→Int→Nat→Nat→World→Prop) (h1:(∀x i j k a b W,T x i j k a b W→A x i j k a b W)→G) (h2:∀x i j k a b W,T x i j k a b W→A x i j k a b W):G:=h1 h2
theorem sv_keep {W V:World} {g gx o2:Nat} {o:Obj} {v:Value} (h:W.heap[g]? =some o∧W.cell? ⟨gx,o2,none⟩=some v) (hb:Below W.heap.size W V) (hx:gx<W.heap.size):V.heap[g]? =some o∧V.cell? ⟨gx,o2,none⟩=some v:=
 ⟨keep hb h.1,(World.cell?_of_block (hb.block gx hx)).trans h.2⟩
theorem sv_set {W:World} {g gx o2 q:Nat} {o:Obj} {v:Value} (h:W.heap[g]? =some o∧W.cell? ⟨gx,o2,none⟩=some v) (cs:Array Value) (h1:g≠q) (h2:gx≠q):(W.setRow q cs).heap[g]? =some o∧(W.setRow q cs).cell? ⟨gx,o2,none⟩=some v:=
 ⟨(setRow_other W q g cs h1).trans h.1,(World.cell?_of_block (setRow_other W q gx cs h2)).trans h.2⟩
theorem ss_keep {W V:World} {b o fb p:Nat} {cs ds:List Value} (h:W.rangeAt b o cs∧W.rangeAt fb p ds) (hb:Below W.heap.size W V) (h1:b<W.heap.size) (h2:fb<W.heap.size):V.rangeAt b o cs∧V.rangeAt fb p ds:=⟨rangeS_keep2 h.1 hb h1,rangeS_keep2 h.2 hb h2⟩
theorem ss_set {W:World} {b o fb p q:Nat} {cs ds:List Value} (h:W.rangeAt b o cs∧W.rangeAt fb p ds) (zs:Array Value) (h1:b≠q) (h2:fb≠q):(W.setRow q zs).rangeAt b o cs∧(W.setRow q zs).rangeAt fb p ds:=⟨mv_rangeY h.1 (setRow_other W q b zs h1),mv_rangeY h.2 (setRow_other W q fb zs h2)⟩
theorem r_value8 (P:Nat→Prop) (no l m:Int) (so:Option Addr) (sn sc:Nat) (fno fty:Int) (num:Nat) (da:Option Addr) (dl dc:Nat) (here data:Int) (w:World) (O:Option Flt3) (X:VT)
 (cD:∀V,Below w.heap.size w V→Calls Tryz.prog 39 #[.slice so sn sc,.slice da dl dc,.int .i64 data] V (VaQ V (fun b=>V.heap.size≤b) O X)):
 Calls Tryz.prog 63 #[.agg #[.int .i64 no,.int .i64 8,.int .u64 l,.int .u64 m,.slice so sn sc],.agg #[.int .i64 fno,.int .i64 fty,.int .u64 (num:Int),.slice da dl dc],.int .i64 here,.int .i64 data] w (VaQ w (fun b=>P b∨w.heap.size≤b) O X):=by
 have RS:=hp2_0 w (.cells #[.int .i64 no,.int .i64 8,.int .u64 l,.int .u64 m,.slice so sn sc] 88) (.cells #[.int .i64 fno,.int .i64 fty,.int .u64 (num:Int),.slice da dl dc] 118);have RF:=hp2_1 w (.cells #[.int .i64 no,.int .i64 8,.int .u64 l,.int .u64 m,.slice so sn sc] 88) (.cells #[.int .i64 fno,.int .i64 fty,.int .u64 (num:Int),.slice da dl dc] 118)
 have hw:Below w.heap.size w ((w.alloc (.cells #[.int .i64 no,.int .i64 8,.int .u64 l,.int .u64 m,.slice so sn sc] 88)).alloc (.cells #[.int .i64 fno,.int .i64 fty,.int .u64 (num:Int),.slice da dl dc] 118)):=((Below.refl _ _).alloc (Nat.le_refl _) _).alloc (by simp) _
 have hsz:((w.alloc (.cells #[.int .i64 no,.int .i64 8,.int .u64 l,.int .u64 m,.slice so sn sc] 88)).alloc (.cells #[.int .i64 fno,.int .i64 fty,.int .u64 (num:Int),.slice da dl dc] 118)).heap.size=w.heap.size+1+1:=by simp
 have hb2:Below ((w.alloc (.cells #[.int .i64 no,.int .i64 8,.int .u64 l,.int .u64 m,.slice so sn sc] 88)).alloc (.cells #[.int .i64 fno,.int .i64 fty,.int .u64 (num:Int),.slice da dl dc] 118)).heap.size ((w.alloc (.cells #[.int .i64 no,.int .i64 8,.int .u64 l,.int .u64 m,.slice so sn sc] 88)).alloc (.cells #[.int .i64 fno,.int .i64 fty,.int .u64 (num:Int),.slice da dl dc] 118)) ((((w.alloc (.cells #[.int .i64 no,.int .i64 8,.int .u64 l,.int .u64 m,.slice so sn sc] 88)).alloc (.cells #[.int .i64 fno,.int .i64 fty,.int .u64 (num:Int),.slice da dl dc] 118)).alloc (.cells #[.int .u64 0,nS,nS] 27)).alloc (.cells #[.int .i64 0,.int .i64 0,.int .i64 0] 41)):=((Below.refl _ _).alloc (Nat.le_refl _) _).alloc (by simp) _
 have RV:=hp2_0 ((w.alloc (.cells #[.int .i64 no,.int .i64 8,.int .u64 l,.int .u64 m,.slice so sn sc] 88)).alloc (.cells #[.int .i64 fno,.int .i64 fty,.int .u64 (num:Int),.slice da dl dc] 118)) (.cells #[.int .u64 0,nS,nS] 27) (.cells #[.int .i64 0,.int .i64 0,.int .i64 0] 41);have RE:=hp2_1 ((w.alloc (.cells #[.int .i64 no,.int .i64 8,.int .u64 l,.int .u64 m,.slice so sn sc] 88)).alloc (.cells #[.int .i64 fno,.int .i64 fty,.int .u64 (num:Int),.slice da dl dc] 118)) (.cells #[.int .u64 0,nS,nS] 27) (.cells #[.int .i64 0,.int .i64 0,.int .i64 0] 41);rw[hsz] at RV RE;replace RS:=keep hb2 RS;replace RF:=keep hb2 RF;replace hw:=Below.after hw hb2;clear hb2 hsz
 go_enter Tryz.func63,Tryz.ntmps63
 go_upto_region 1 with(first|(refine wpList_box rfl 88 _ rfl _ rfl (bSl _) ?_)|(refine wpList_box rfl 118 _ rfl _ rfl (bFld _) ?_)|fail)
 generalize (((w.alloc (.cells #[.int .i64 no,.int .i64 8,.int .u64 l,.int .u64 m,.slice so sn sc] 88)).alloc (.cells #[.int .i64 fno,.int .i64 fty,.int .u64 (num:Int),.slice da dl dc] 118)).alloc (.cells #[.int .u64 0,nS,nS] 27)).alloc (.cells #[.int .i64 0,.int .i64 0,.int .i64 0] 41)=w4 at *
 have c1:=cell_of_row _ _ 1 _ _ _ RS;have c4:=cell_of_row _ _ 4 _ _ _ RS;have d3:=cell_of_row _ _ 3 _ _ _ RF;have cD4:=hide (cD w4 hw);clear cD
 go_wp2_with (fail)
 refine cD4.out.mono ?_;rintro e_ w7 ⟨hq,hb_⟩;have l3:=lt_of_row RE;replace RV:=keep hb_ RV;replace RE:=keep hb_ RE;replace hw:=Below.after hw hb_;clear hb_ cD4 RS RF c1 c4 d3
 cases O with
 |some x=>
  obtain rfl:=hq;obtain⟨fl,fa,fw⟩:=x;unfold frw
  have oneA:(#[Value.int .u64 0,nS,nS]:Array Value).all (·.oneCell')=true:=by simp[Value.oneCell']
  have oneB:(#[Value.int .i64 fl,.int .i64 fa,.int .i64 fw]:Array Value).all (·.oneCell')=true:=by simp[Value.oneCell']
  go_wp2_with (first|(refine wpList_store_row rfl 27 _ _ rfl (w.heap.size+1+1) #[.int .u64 0,nS,nS] rfl rfl 27 _ RV infoV rfl oneA ?_)|(refine wpList_store_row rfl 41 _ _ rfl (w.heap.size+1+1+1) #[.int .i64 fl,.int .i64 fa,.int .i64 fw] rfl rfl 41 _ ((setRow_other w7 (w.heap.size+1+1) (w.heap.size+1+1+1) #[.int .u64 0,nS,nS] (by omega)).trans RE) infoFt rfl oneB ?_)|fail)
  replace RE:=(setRow_other w7 (w.heap.size+1+1) (w.heap.size+1+1+1) #[.int .u64 0,nS,nS] (by omega)).trans RE
  replace RV:=setRow_heap w7 (w.heap.size+1+1) _ (#[.int .u64 0,nS,nS]) _ _ RV
  replace hw:=below_setRow hw (show w.heap.size≤w.heap.size+1+1 by omega) #[.int .u64 0,nS,nS]
  generalize w7.setRow (w.heap.size+1+1) #[.int .u64 0,nS,nS]=w8 at *
  replace RV:=(setRow_other w8 (w.heap.size+1+1+1) (w.heap.size+1+1) #[.int .i64 fl,.int .i64 fa,.int .i64 fw] (by omega)).trans RV
  replace RE:=setRow_heap w8 (w.heap.size+1+1+1) _ (#[.int .i64 fl,.int .i64 fa,.int .i64 fw]) _ _ RE
  replace hw:=below_setRow hw (show w.heap.size≤w.heap.size+1+1+1 by omega) #[.int .i64 fl,.int .i64 fa,.int .i64 fw]
  exact bodyPost_ret (v:=.tuple #[.agg #[.int .u64 0,nS,nS],.agg #[.int .i64 fl,.int .i64 fa,.int .i64 fw]]) (results_cell_cell Tryz.results63 _ _ (w.heap.size+1+1) (w.heap.size+1+1+1) _ _ _ _ _ _ _ _ rfl RV Tryz.underlying27 rfl infoV rfl RE Tryz.underlying41 rfl infoFt) rfl (by unfold VaQ;exact⟨rfl,hw⟩)
 |none=>
  obtain⟨⟨xn,xda,xdl,xdc,xpa,xpl,xpc⟩,rfl,hv⟩:=hq;unfold vrv vrw
  have oneA:(#[Value.int .u64 (xn:Int),.slice xda xdl xdc,.slice xpa xpl xpc]:Array Value).all (·.oneCell')=true:=by simp[Value.oneCell']
  have oneB:(#[Value.int .i64 0,.int .i64 0,.int .i64 0]:Array Value).all (·.oneCell')=true:=by simp[Value.oneCell']
  have hv8:=(hv.other (w.heap.size+1+1) #[.int .u64 (xn:Int),.slice xda xdl xdc,.slice xpa xpl xpc] (T:=fun b=>P b∨w.heap.size≤b) (fun b hb_=>⟨by omega,.inr (by omega)⟩))
  have hv9:=(vtm_upto (hv.other (w.heap.size+1+1) #[.int .u64 (xn:Int),.slice xda xdl xdc,.slice xpa xpl xpc] (T:=fun b=>w4.heap.size≤b) (fun b hb_=>⟨by omega,hb_⟩))).other (w.heap.size+1+1+1) #[.int .i64 0,.int .i64 0,.int .i64 0] (T:=fun b=>P b∨w.heap.size≤b) (fun b hb_=>⟨by omega,.inr (by omega)⟩)
  clear hv hv8
  go_wp2_with (first|(refine wpList_store_row rfl 27 _ _ rfl (w.heap.size+1+1) #[.int .u64 (xn:Int),.slice xda xdl xdc,.slice xpa xpl xpc] rfl rfl 27 _ RV infoV rfl oneA ?_)|(refine wpList_store_row rfl 41 _ _ rfl (w.heap.size+1+1+1) #[.int .i64 0,.int .i64 0,.int .i64 0] rfl rfl 41 _ ((setRow_other w7 (w.heap.size+1+1) (w.heap.size+1+1+1) #[.int .u64 (xn:Int),.slice xda xdl xdc,.slice xpa xpl xpc] (by omega)).trans RE) infoFt rfl oneB ?_)|fail)
  replace RE:=(setRow_other w7 (w.heap.size+1+1) (w.heap.size+1+1+1) #[.int .u64 (xn:Int),.slice xda xdl xdc,.slice xpa xpl xpc] (by omega)).trans RE
  replace RV:=setRow_heap w7 (w.heap.size+1+1) _ (#[.int .u64 (xn:Int),.slice xda xdl xdc,.slice xpa xpl xpc]) _ _ RV
  replace hw:=below_setRow hw (show w.heap.size≤w.heap.size+1+1 by omega) #[.int .u64 (xn:Int),.slice xda xdl xdc,.slice xpa xpl xpc]
  generalize w7.setRow (w.heap.size+1+1) #[.int .u64 (xn:Int),.slice xda xdl xdc,.slice xpa xpl xpc]=w8 at *
  replace RV:=(setRow_other w8 (w.heap.size+1+1+1) (w.heap.size+1+1) #[.int .i64 0,.int .i64 0,.int .i64 0] (by omega)).trans RV
  replace RE:=setRow_heap w8 (w.heap.size+1+1+1) _ (#[.int .i64 0,.int .i64 0,.int .i64 0]) _ _ RE
  replace hw:=below_setRow hw (show w.heap.size≤w.heap.size+1+1+1 by omega) #[.int .i64 0,.int .i64 0,.int .i64 0]
  exact bodyPost_ret (v:=.tuple #[.agg #[.int .u64 (xn:Int),.slice xda xdl xdc,.slice xpa xpl xpc],.agg #[.int .i64 0,.int .i64 0,.int .i64 0]]) (results_cell_cell Tryz.results63 _ _ (w.heap.size+1+1) (w.heap.size+1+1+1) _ _ _ _ _ _ _ _ rfl RV Tryz.underlying27 rfl infoV rfl RE Tryz.underlying41 rfl infoFt) rfl (by unfold VaQ;exact⟨⟨⟨xn,xda,xdl,xdc,xpa,xpl,xpc⟩,rfl,hv9⟩,hw⟩)
theorem r_value9 (P:Nat→Prop) (no:Int) (l m:Nat) (so:Option Addr) (sn sc:Nat) (fno fty:Int) (num:Nat) (d:List B) (da:Option Addr) (dc:Nat) (here data:Int) (w:World) (dec:List B→Int→Option Flt3) (dv:List B→VT)
 (hB:BysB w (.slice da d.length dc) d) (hcd:d.length≤dc) (hd0:0≤data) (hd1:data+(d.length:Int)≤1152921504606846976) (hdl:d.length≤4194304) (hC0:∀b f x,dec b f=some x→x.why≠0)
 (hC:∀V b bv f,Below w.heap.size w V→BysB V bv b→(∀a l c,bv=.slice a l c→l≤c)→0≤f→f+(b.length:Int)≤1152921504606846976→Calls Tryz.prog 39 #[.slice so sn sc,bv,.int .i64 f] V (VaQ V (fun b=>V.heap.size≤b) (dec b f) (dv b))):
 Calls Tryz.prog 63 #[.agg #[.int .i64 no,.int .i64 9,.int .u64 (l:Int),.int .u64 (m:Int),.slice so sn sc],.agg #[.int .i64 fno,.int .i64 fty,.int .u64 (num:Int),.slice da d.length dc],.int .i64 here,.int .i64 data] w (VaQ w (fun b=>P b∨w.heap.size≤b) (lsN l m dec d here data) (.mk 0 [] ((spp (sp d)).map dv))):=by
 obtain⟨RO,hRO⟩:∃RO,lsN l m dec d here data=RO:=⟨_,rfl⟩;rw[hRO];obtain⟨XX,hXX0⟩:∃XX,VT.mk 0 [] ((spp (sp d)).map dv)=XX:=⟨_,rfl⟩;rw[hXX0];have hXX:=hide hXX0;clear hXX0;have hsp:spe (sp d)=0→(spp (sp d)).length≤4096∧jn (spp (sp d))=d:=sp_fit d;have hspa:=spa_bd d;unfold lsN at hRO;have RS:=hp2_0 w (.cells #[.int .i64 no,.int .i64 9,.int .u64 (l:Int),.int .u64 (m:Int),.slice so sn sc] 88) (.cells #[.int .i64 fno,.int .i64 fty,.int .u64 (num:Int),.slice da d.length dc] 118);have RF:=hp2_1 w (.cells #[.int .i64 no,.int .i64 9,.int .u64 (l:Int),.int .u64 (m:Int),.slice so sn sc] 88) (.cells #[.int .i64 fno,.int .i64 fty,.int .u64 (num:Int),.slice da d.length dc] 118)
 have hw:Below w.heap.size w ((w.alloc (.cells #[.int .i64 no,.int .i64 9,.int .u64 (l:Int),.int .u64 (m:Int),.slice so sn sc] 88)).alloc (.cells #[.int .i64 fno,.int .i64 fty,.int .u64 (num:Int),.slice da d.length dc] 118)):=((Below.refl _ _).alloc (Nat.le_refl _) _).alloc (by simp) _
 have hsz:((w.alloc (.cells #[.int .i64 no,.int .i64 9,.int .u64 (l:Int),.int .u64 (m:Int),.slice so sn sc] 88)).alloc (.cells #[.int .i64 fno,.int .i64 fty,.int .u64 (num:Int),.slice da d.length dc] 118)).heap.size=w.heap.size+1+1:=by simp
 have hb2:Below ((w.alloc (.cells #[.int .i64 no,.int .i64 9,.int .u64 (l:Int),.int .u64 (m:Int),.slice so sn sc] 88)).alloc (.cells #[.int .i64 fno,.int .i64 fty,.int .u64 (num:Int),.slice da d.length dc] 118)).heap.size ((w.alloc (.cells #[.int .i64 no,.int .i64 9,.int .u64 (l:Int),.int .u64 (m:Int),.slice so sn sc] 88)).alloc (.cells #[.int .i64 fno,.int .i64 fty,.int .u64 (num:Int),.slice da d.length dc] 118)) ((((w.alloc (.cells #[.int .i64 no,.int .i64 9,.int .u64 (l:Int),.int .u64 (m:Int),.slice so sn sc] 88)).alloc (.cells #[.int .i64 fno,.int .i64 fty,.int .u64 (num:Int),.slice da d.length dc] 118)).alloc (.cells #[.int .u64 0,nS,nS] 27)).alloc (.cells #[.int .i64 0,.int .i64 0,.int .i64 0] 41)):=((Below.refl _ _).alloc (Nat.le_refl _) _).alloc (by simp) _
 have RV:=hp2_0 ((w.alloc (.cells #[.int .i64 no,.int .i64 9,.int .u64 (l:Int),.int .u64 (m:Int),.slice so sn sc] 88)).alloc (.cells #[.int .i64 fno,.int .i64 fty,.int .u64 (num:Int),.slice da d.length dc] 118)) (.cells #[.int .u64 0,nS,nS] 27) (.cells #[.int .i64 0,.int .i64 0,.int .i64 0] 41);have RE:=hp2_1 ((w.alloc (.cells #[.int .i64 no,.int .i64 9,.int .u64 (l:Int),.int .u64 (m:Int),.slice so sn sc] 88)).alloc (.cells #[.int .i64 fno,.int .i64 fty,.int .u64 (num:Int),.slice da d.length dc] 118)) (.cells #[.int .u64 0,nS,nS] 27) (.cells #[.int .i64 0,.int .i64 0,.int .i64 0] 41);rw[hsz] at RV RE;replace RS:=keep hb2 RS;replace RF:=keep hb2 RF;replace hw:=Below.after hw hb2;clear hb2 hsz
 go_enter Tryz.func63,Tryz.ntmps63
 go_upto_region 1 with(first|(refine wpList_box rfl 88 _ rfl _ rfl (bSl _) ?_)|(refine wpList_box rfl 118 _ rfl _ rfl (bFld _) ?_)|fail)
 generalize (((w.alloc (.cells #[.int .i64 no,.int .i64 9,.int .u64 (l:Int),.int .u64 (m:Int),.slice so sn sc] 88)).alloc (.cells #[.int .i64 fno,.int .i64 fty,.int .u64 (num:Int),.slice da d.length dc] 118)).alloc (.cells #[.int .u64 0,nS,nS] 27)).alloc (.cells #[.int .i64 0,.int .i64 0,.int .i64 0] 41)=w4 at *
 have c1:=cell_of_row _ _ 1 _ _ _ RS;have d3:=cell_of_row _ _ 3 _ _ _ RF
 have cS:=hide (r_split d w4 (.slice da d.length dc) (hB.keep hw) (fun a l c e=>by cases e;exact hcd))
 have l4:=lt_of_row RE;have HC:=hide hC;have HC0:=hide hC0;replace hRO:=hide hRO;clear hB hC hC0
 go_wp2_with (fail)
 refine cS.out.mono ?_;rintro e_ w5 ⟨u,us,rfl,hI,hb_⟩;have l45:=hb_.size;replace RS:=keep hb_ RS;replace RV:=keep hb_ RV;replace RE:=keep hb_ RE;replace hw:=Below.after hw hb_;clear hb_ cS RF c1 d3
 by_cases hse:spe (sp d)=0
 ·obtain⟨hsn,hsj⟩:=hsp hse
  obtain⟨ivo,ivc,rfl⟩:∃ivo ivc,u=.slice ivo (spp (sp d)).length ivc:=by
   obtain⟨h1,h2,_⟩:=hI
   obtain⟨_,⟨rfl,h0⟩|⟨g,cap,cur,rfl,_⟩⟩:=h1
   ·exact⟨none,0,by rw[←h2,h0]⟩
   ·exact⟨_,_,by rw[h2]⟩
  rw[hse];replace hRO:=hRO.out
  rw[if_neg (by omega)] at hRO
  clear hsp
  have hJ:(jn (spp (sp d))).length=d.length:=by rw[hsj]
  clear hsj hse
  generalize spp (sp d)=bss at *
  have q3:IntKind.wrap .u64 (bss.length:Int)=(bss.length:Int):=by show(bss.length:Int)%18446744073709551616=bss.length;omega
  have cT:=hide (r_within (bss.length:Int) no 9 (l:Int) (m:Int) so sn sc w5)
  generalize spa (sp d)=pa_ at *
  have hw5:=hide hw;have RV5:=hide RV;have RE5:=hide RE;clear hw RV RE
  go_wp2_with (first|(refine wpList_load_want rfl 88 _ rfl (w.heap.size) rfl 88 #[.int .i64 no,.int .i64 9,.int .u64 (l:Int),.int .u64 (m:Int),.slice so sn sc] (0,0) _ RS Tryz.underlying88 rfl infoSlt ?_)|fail)
  refine cT.out.mono ?_;rintro e_ w6 ⟨rfl,hb_⟩;have l56:=hb_.size;have RS6:=hide (keep hb_ RS);have RV6:=hide (keep hb_ RV5.out);have RE6:=hide (keep hb_ RE5.out);have hw6:=hide (Below.after hw5.out hb_);have hI6:=hide (hI.keep hb_);clear hb_ cT RS RV5 RE5 hw5 hI
  by_cases hwt:wth (bss.length:Int) (l:Int) (m:Int)=0
  ·have b1:(wth (bss.length:Int) (l:Int) (m:Int)==0)=true:=by simpa using hwt
   rw[if_neg (by omega)] at hRO
   obtain⟨R,hR⟩:∃R,itN dec bss data=R:=⟨_,rfl⟩;have eR0:Hid (R=itN dec (bss.drop 0) data):=hide hR.symm;rw[hR] at hRO;subst hRO;clear hR;rw[b1]
   have hJ0:data+((jn (bss.drop 0)).length:Int)≤1152921504606846976:=by rw[List.drop_zero];omega
   have RVb0:=hide (hp1_0 w6 (.cells #[.int .u64 0,nS,nS] 27));have hby0:Hid (Below w6.heap.size w6 (w6.alloc (.cells #[.int .u64 0,nS,nS] 27))):=hide ((Below.refl _ _).alloc (Nat.le_refl _) _)
   go_wp2_with (fail)
   generalize w6.alloc (.cells #[.int .u64 0,nS,nS] 27)=yb at *
   go_loopw [16,3,17,18] (fun i dt _ _ wr=>∃(k:Nat) (F:Int) (pv:Value) (xs:List VR),k≤bss.length∧i=.int .i64 k∧dt=.int .i64 F∧0≤F∧F+((jn (bss.drop k)).length:Int)≤1152921504606846976∧R=itN dec (bss.drop k) F∧wr.heap[w6.heap.size]? =some (.cells #[.int .u64 0,nS,pv] 27 (0,0))∧PaW wr (w6.heap.size+1) (w6.heap.size+1) pv xs ((bss.take k).map dv)∧Below w6.heap.size w6 wr) (fun i _ _ _ _=>bss.length-(intOf i).toNat)
   case atStart=>exact⟨0,data,_,[],by omega,rfl,rfl,hd0,hJ0,eR0.out,RVb0.out,paw_nil _ _ _,hby0.out⟩
   case round=>
    clear eR0 RVb0 hby0 hJ0;obtain⟨k,F,pv,xs,hk,rfl,rfl,hF0,hF1,eR,RVb,hP,hby⟩:=hrel
    have hlk:((bss.take k).map dv).length=k:=by rw[List.length_map,List.length_take];omega
    obtain⟨pva,pvc,rfl⟩:∃a c,pv=.slice a k c:=by
     have:=hP.1;rw[hlk] at this;exact own_slice this
    by_cases hlt:k<bss.length
    ·have hd2:decide ((k:Int)<(bss.length:Int))=true:=by simp;omega
     have hmap:=hide (btake dv bss k hlt)
     have hJk:(jn (bss.drop k)).length=(en (gp bss k).length).length+(gp bss k).length+(jn (bss.drop (k+1))).length:=by rw[bdrop bss k hlt,jn,List.length_append,itm_len]
     have hJl:(jn (bss.drop k)).length≤4194304:=by
      have:(jn bss).length=(jn (bss.take k)).length+(jn (bss.drop k)).length:=by rw[←List.length_append,←jn_app,List.take_append_drop]
      omega
     have eR2:R=match dec (gp bss k) (F+((en (gp bss k).length).length:Int)) with
      |some e=>some e
      |none=>itN dec (bss.drop (k+1)) (F+((en (gp bss k).length).length:Int)+((gp bss k).length:Int)):=by
      rw[eR,bdrop bss k hlt,itN]
      all_goals rfl
     clear eR;obtain⟨gx,off,xc,uo,uc,ei,hcell0,hgv,hOw0⟩:=its_item (hI6.out) hlt
     injection ei with ei1 ei2 ei3
     subst ei1 ei3;rw[hgv] at hcell0 hOw0;have hgx:gx<w6.heap.size:=cell_ltq hcell0;have hcell6:=hide hcell0;have hcell:=(World.cell?_of_block (hby.block gx hgx)).trans hcell0;have hOw:=hOw0.keep hby
     have hBb:=hOw.bysB (by omega)
     have hcb:=own_capT hOw
     have cC:=fun V (hV:Below wr.heap.size wr V)=>HC.out V (gp bss k) (.slice uo (gp bss k).length uc) (F+((en (gp bss k).length).length:Int)) (hw6.out.trans ((Below.after hby hV).mono (by omega))) (hBb.keep hV) (fun a l c e=>by cases e;exact hcb) (by omega) (by omega)
     have cS:=r_sizeX (gp bss k).length (by omega)
     obtain⟨Fk,hFk⟩:∃Fk,dec (gp bss k) (F+((en (gp bss k).length).length:Int))=Fk:=⟨_,rfl⟩;rw[hFk] at eR2 cC;replace cC:=hide cC;replace eR2:=hide eR2
     have hfwk:∀x,Fk=some x→x.why≠0:=fun x e=>HC0.out _ _ _ (hFk.trans e)
     clear hFk HC HC0 hI6 hgv hOw hBb hcb hOw0 hcell0
     generalize dv (gp bss k)=X at *
     generalize (gp bss k).length=L at *
     generalize ((en L).length)=H at *
     have q0:IntKind.wrap .u64 (L:Int)=(L:Int):=by show(L:Int)%18446744073709551616=L;omega
     have q1:IntKind.wrap .i64 (F+(H:Int))=F+(H:Int):=by rw[IntKind.wrap_i64];omega
     have q2:IntKind.wrap .i64 (F+(H:Int)+(L:Int))=F+(H:Int)+(L:Int):=by rw[IntKind.wrap_i64];omega
     have szy:=hby.size;have lS:=lt_of_row RS6.out;have lVe:=lt_of_row RE6.out
     have RSr:=(hby.block (w.heap.size) (by omega)).trans RS6.out
     have RVr:=hide ((hby.block (w.heap.size+1+1) (by omega)).trans RV6.out)
     have REr:=hide ((hby.block (w.heap.size+1+1+1) (by omega)).trans RE6.out)
     have hwr:=hide (hw6.out.trans (hby.mono (by omega)))
     have RVbr:=hide RVb;have lVb:=lt_of_row RVb;have hPr:=hide hP;have hpor:=own_high_row hP.1
     have hi9:0≤(k:Int)∧(k:Int)<(bss.length:Int):=by omega
     replace hJk:=hide hJk;clear RVb hP
     go_wp2_with (fail)
     refine(cS wr).mono ?_;rintro e_ w1 ⟨_,rfl,rfl,hbr⟩
     have HS:(fun W:World=>W.heap[w.heap.size]? =some (.cells #[.int .i64 no,.int .i64 9,.int .u64 (l:Int),.int .u64 (m:Int),.slice so sn sc] 88 (0,0))∧W.cell? ⟨gx,off+k,none⟩=some (.slice uo L uc)) w1:=⟨keep hbr RSr,(World.cell?_of_block (hbr.block gx (by omega))).trans hcell⟩
     clear cS hcell RSr
     go_upto_region 19 with(fail)
     have cV:=hide (fun V (hV:Below wr.heap.size wr V)=>(cC.out V hV).mono (fun e w' h=>h.u))
     clear cC;have hbd:Below w1.heap.size w1 w1.drew:=below_drN (Below.refl _ _) 1
     replace HS:=sv_keep HS hbd (by have:=hbr.size;omega)
     replace hbr:=Below.after hbr hbd;clear hbd
     refine wp_region_held (S:=fun W:World=>W.heap[w.heap.size]? =some (.cells #[.int .i64 no,.int .i64 9,.int .u64 (l:Int),.int .u64 (m:Int),.slice so sn sc] 88 (0,0))∧W.cell? ⟨gx,off+k,none⟩=some (.slice uo L uc)) (by kernel_rfl) ?_
     change wpAnyH _ _ _ _ _ _ _ _ (World.drew _)
     generalize w1.drew=x1 at *
     refine wTy 0 ?v8 rfl ?y8 HS ?r8
     case y8=>
      intro w_ hS_;go_simp
      try with_reducible rfl
     simp only[Act.put,ZPa,ZPc,ZPd,ZPe,ZPf];refine wTy 1 (.slice so sn sc) rfl ?y9 HS ?r9
     case y9=>
      intro w_ hS_;have c_:w_.cell? ⟨w.heap.size,4,none⟩=some (.slice so sn sc):=cell_of_row _ _ 4 _ _ _ hS_.1;go_simp
      try with_reducible rfl
     simp only[Act.put,ZPa,ZPb,ZPc,ZPd,ZPe,ZPf];refine wTy 2 ?v10 rfl ?y10 HS ?r10
     case y10=>
      intro w_ hS_;go_simp
      try with_reducible rfl
     simp only[Act.put,ZPa,ZPb,ZPc,ZPd,ZPe,ZPf];refine wTy 3 ?v11 rfl ?y11 HS ?r11
     case y11=>
      intro w_ hS_;go_simp
      try with_reducible rfl
     simp only[Act.put,ZPa,ZPb,ZPc,ZPd,ZPe,ZPf];refine wTy 4 ?v12 rfl ?y12 HS ?r12
     case y12=>
      intro w_ hS_;go_simp
      try with_reducible rfl
     simp only[Act.put,ZPa,ZPb,ZPc,ZPd,ZPe,ZPf];refine wTy 5 (.slice uo L uc) rfl ?y13 HS ?r13
     case y13=>
      intro w_ hS_;have c_:=hS_.2;go_simp
      try with_reducible rfl
     simp only[Act.put,ZPa,ZPb,ZPc,ZPd,ZPe,ZPf];refine wTy 6 ?v14 rfl ?y14 HS ?r14
     case y14=>
      intro w_ hS_;go_simp
      try with_reducible rfl
     simp only[Act.put,ZPa,ZPb,ZPc,ZPd,ZPe,ZPf]
     apply ecutQ4 (fun(x:VR) (fl fa fw:Int) (gX gY:Nat) (W:World)=>Below wr.heap.size wr W∧W.heap[gX]? =some (.cells (vrv x) 27 (0,0))∧W.heap[gY]? =some (.cells #[.int .i64 fl,.int .i64 fa,.int .i64 fw] 41 (0,0))∧wr.heap.size≤gX∧wr.heap.size≤gY∧gX≠gY∧VtO W (fun b=>w6.heap.size+1≤b∧(Value.slice pva k pvc).ownBlock≠some b) x (valU Fk X)∧flr Fk=#[.int .i64 fl,.int .i64 fa,.int .i64 fw])
     ·intro key_
      apply ecutQ4 (fun(x:VR) (fl fa fw:Int) (gX gY:Nat) (W:World)=>Below wr.heap.size wr W∧(fun W:World=>W.heap[w.heap.size]? =some (.cells #[.int .i64 no,.int .i64 9,.int .u64 (l:Int),.int .u64 (m:Int),.slice so sn sc] 88 (0,0))∧W.cell? ⟨gx,off+k,none⟩=some (.slice uo L uc)) W∧W.heap[gX]? =some (.cells #[.int .u64 0,nS,nS] 27 (0,0))∧W.heap[gY]? =some (.cells #[.int .i64 0,.int .i64 0,.int .i64 0] 41 (0,0))∧wr.heap.size≤gX∧wr.heap.size≤gY∧gX≠gY∧VtO W (fun b=>(w6.heap.size+1≤b∧(Value.slice pva k pvc).ownBlock≠some b)∧b≠gX∧b≠gY) x (valU Fk X)∧flr Fk=#[.int .i64 fl,.int .i64 fa,.int .i64 fw])
      ·intro key0_
       refine wpAnyH_threeY (j:=7) (k:=11) (l:=12) (fuel:=7) (by kernel_rfl) rfl rfl rfl (by kernel_rfl) (by kernel_rfl) (by kernel_rfl) (fun K_ hK_=>?_) (fun K_ hK_=>?_) (fun K_ hK_=>?_)
       ·have hcL:=hbr.size
        refine wp_call_ex (f:=39) (R:=fun u w'=>(∃x fl fa fw,u=.tuple #[.agg (vrv x),.agg #[.int .i64 fl,.int .i64 fa,.int .i64 fw]]∧VtO w' (fun b=>x1.heap.size≤b) x (valU Fk X)∧flr Fk=#[.int .i64 fl,.int .i64 fa,.int .i64 fw])∧Below x1.heap.size x1 w') (by kernel_rfl) (cV.out x1 hbr) (fun v_ q1 hX_=>?_)
        obtain⟨⟨x,fl,fa,fw,rfl,hvt,hfl⟩,hb_⟩:=hX_
        have oneA:(vrv x).all (·.oneCell')=true:=by simp[vrv,vrw,Value.oneCell']
        have oneB:(#[Value.int .i64 fl,.int .i64 fa,.int .i64 fw]:Array Value).all (·.oneCell')=true:=by simp[Value.oneCell']
        have hcw:q1.heap.size≤q1.heap.size:=Nat.le_refl _;replace hvt:=vtm_upto hvt;have hcH:=hb_.size
        replace HS:=sv_keep HS hb_ (by have:=hbr.size;omega)
        replace hbr:=Below.after hbr hb_;clear hb_;refine hK_ _ _ HS ?_;simp only[Act.put,ZPa,ZPb,ZPc,ZPd,ZPe,ZPf];clear hK_;refine wTy 8 ?v15 rfl ?y15 HS ?r15
        case y15=>
         intro w_ hS_;go_simp
         try with_reducible rfl
        simp only[Act.put,ZPa,ZPb,ZPc,ZPd,ZPe,ZPf];refine wTy 9 ?v16 rfl ?y16 HS ?r16
        case y16=>
         intro w_ hS_;go_simp
         try with_reducible rfl
        simp only[Act.put,ZPa,ZPb,ZPc,ZPd,ZPe,ZPf];refine wTy 10 ?v17 rfl ?y17 HS ?r17
        case y17=>
         intro w_ hS_;go_simp
         try with_reducible rfl
        simp only[Act.put,ZPa,ZPb,ZPc,ZPd,ZPe,ZPf]
        refine wpAnyH_two (j:=11) (k:=12) (fuel:=3) (by kernel_rfl) rfl rfl (by kernel_rfl) (by kernel_rfl) (fun K_ hK_=>?_) (fun K_ hK_=>?_)
        ·refine wp_world_op (.pointer (some ⟨q1.heap.size,0,none⟩)) (q1.alloc (.cells #[.int .u64 0,nS,nS] 27)) (by kernel_rfl) ?_
         have hb_:Below q1.heap.size q1 (q1.alloc (.cells #[.int .u64 0,nS,nS] 27)):=(Below.refl _ _).alloc (Nat.le_refl _) _
         have lo_gX:wr.heap.size≤q1.heap.size:=hbr.size;have lh_gX:=hcw;have RX:=hp1_0 q1 (.cells #[.int .u64 0,nS,nS] 27);replace hvt:=hvt.blw hb_;replace hcw:=Nat.le_trans hcw hb_.size
         replace HS:=sv_keep HS hb_ (by have:=hbr.size;omega)
         replace hbr:=Below.after hbr hb_;clear hb_;refine hK_ _ _ HS ?_;simp only[Act.put,ZPa,ZPb,ZPc,ZPd,ZPe,ZPf];clear hK_
         generalize q1.alloc (.cells #[.int .u64 0,nS,nS] 27)=q2 at *
         generalize q1.heap.size=gX at *
         refine wpAnyH_one (k:=12) (fuel:=2) (by kernel_rfl) rfl (by kernel_rfl) (fun K_ hK_=>?_)
         refine wp_world_op (.pointer (some ⟨q2.heap.size,0,none⟩)) (q2.alloc (.cells #[.int .i64 0,.int .i64 0,.int .i64 0] 41)) (by kernel_rfl) ?_
         have hb_:Below q2.heap.size q2 (q2.alloc (.cells #[.int .i64 0,.int .i64 0,.int .i64 0] 41)):=(Below.refl _ _).alloc (Nat.le_refl _) _;have lo_gY:wr.heap.size≤q2.heap.size:=hbr.size;have lt_RX_gY:=lt_of_row RX;have lh_gY:=hcw;have RY:=hp1_0 q2 (.cells #[.int .i64 0,.int .i64 0,.int .i64 0] 41);replace RX:=keep hb_ RX;replace hvt:=hvt.blw hb_;replace hcw:=Nat.le_trans hcw hb_.size
         replace HS:=sv_keep HS hb_ (by have:=hbr.size;omega)
         replace hbr:=Below.after hbr hb_;clear hb_;refine hK_ _ _ HS ?_;simp only[Act.put,ZPa,ZPb,ZPc,ZPd,ZPe,ZPf];clear hK_
         generalize q2.alloc (.cells #[.int .i64 0,.int .i64 0,.int .i64 0] 41)=q3 at *
         generalize q2.heap.size=gY at *
         exact key0_ x fl fa fw gX gY q3 ⟨hbr,HS,RX,RY,by omega,by omega,by omega,hvt.wid (fun b hb_=>⟨⟨by omega,fun e=>by have:=hpor b e;omega⟩,by omega,by omega⟩),hfl⟩
        ·refine wp_world_op (.pointer (some ⟨q1.heap.size,0,none⟩)) (q1.alloc (.cells #[.int .i64 0,.int .i64 0,.int .i64 0] 41)) (by kernel_rfl) ?_
         have hb_:Below q1.heap.size q1 (q1.alloc (.cells #[.int .i64 0,.int .i64 0,.int .i64 0] 41)):=(Below.refl _ _).alloc (Nat.le_refl _) _
         have lo_gY:wr.heap.size≤q1.heap.size:=hbr.size;have lh_gY:=hcw;have RY:=hp1_0 q1 (.cells #[.int .i64 0,.int .i64 0,.int .i64 0] 41);replace hvt:=hvt.blw hb_;replace hcw:=Nat.le_trans hcw hb_.size
         replace HS:=sv_keep HS hb_ (by have:=hbr.size;omega)
         replace hbr:=Below.after hbr hb_;clear hb_;refine hK_ _ _ HS ?_;simp only[Act.put,ZPa,ZPb,ZPc,ZPd,ZPe,ZPf];clear hK_
         generalize q1.alloc (.cells #[.int .i64 0,.int .i64 0,.int .i64 0] 41)=q4 at *
         generalize q1.heap.size=gY at *
         refine wpAnyH_one (k:=11) (fuel:=2) (by kernel_rfl) rfl (by kernel_rfl) (fun K_ hK_=>?_)
         refine wp_world_op (.pointer (some ⟨q4.heap.size,0,none⟩)) (q4.alloc (.cells #[.int .u64 0,nS,nS] 27)) (by kernel_rfl) ?_
         have hb_:Below q4.heap.size q4 (q4.alloc (.cells #[.int .u64 0,nS,nS] 27)):=(Below.refl _ _).alloc (Nat.le_refl _) _;have lo_gX:wr.heap.size≤q4.heap.size:=hbr.size;have lt_RY_gX:=lt_of_row RY;have lh_gX:=hcw;have RX:=hp1_0 q4 (.cells #[.int .u64 0,nS,nS] 27);replace RY:=keep hb_ RY;replace hvt:=hvt.blw hb_;replace hcw:=Nat.le_trans hcw hb_.size
         replace HS:=sv_keep HS hb_ (by have:=hbr.size;omega)
         replace hbr:=Below.after hbr hb_;clear hb_;refine hK_ _ _ HS ?_;simp only[Act.put,ZPa,ZPb,ZPc,ZPd,ZPe,ZPf];clear hK_
         generalize q4.alloc (.cells #[.int .u64 0,nS,nS] 27)=q5 at *
         generalize q4.heap.size=gX at *
         exact key0_ x fl fa fw gX gY q5 ⟨hbr,HS,RX,RY,by omega,by omega,by omega,hvt.wid (fun b hb_=>⟨⟨by omega,fun e=>by have:=hpor b e;omega⟩,by omega,by omega⟩),hfl⟩
       ·refine wp_world_op (.pointer (some ⟨x1.heap.size,0,none⟩)) (x1.alloc (.cells #[.int .u64 0,nS,nS] 27)) (by kernel_rfl) ?_
        have hb_:Below x1.heap.size x1 (x1.alloc (.cells #[.int .u64 0,nS,nS] 27)):=(Below.refl _ _).alloc (Nat.le_refl _) _
        have lo_gX:wr.heap.size≤x1.heap.size:=hbr.size;have RX:=hp1_0 x1 (.cells #[.int .u64 0,nS,nS] 27)
        replace HS:=sv_keep HS hb_ (by have:=hbr.size;omega)
        replace hbr:=Below.after hbr hb_;clear hb_;refine hK_ _ _ HS ?_;simp only[Act.put,ZPa,ZPb,ZPc,ZPd,ZPe,ZPf];clear hK_
        generalize x1.alloc (.cells #[.int .u64 0,nS,nS] 27)=q6 at *
        generalize x1.heap.size=gX at *
        refine wpAnyH_two (j:=7) (k:=12) (fuel:=6) (by kernel_rfl) rfl rfl (by kernel_rfl) (by kernel_rfl) (fun K_ hK_=>?_) (fun K_ hK_=>?_)
        ·have lc_gX:=lt_of_row RX
         have hcL:=hbr.size
         refine wp_call_ex (f:=39) (R:=fun u w'=>(∃x fl fa fw,u=.tuple #[.agg (vrv x),.agg #[.int .i64 fl,.int .i64 fa,.int .i64 fw]]∧VtO w' (fun b=>q6.heap.size≤b) x (valU Fk X)∧flr Fk=#[.int .i64 fl,.int .i64 fa,.int .i64 fw])∧Below q6.heap.size q6 w') (by kernel_rfl) (cV.out q6 hbr) (fun v_ q7 hX_=>?_)
         obtain⟨⟨x,fl,fa,fw,rfl,hvt,hfl⟩,hb_⟩:=hX_
         have oneA:(vrv x).all (·.oneCell')=true:=by simp[vrv,vrw,Value.oneCell']
         have oneB:(#[Value.int .i64 fl,.int .i64 fa,.int .i64 fw]:Array Value).all (·.oneCell')=true:=by simp[Value.oneCell']
         have hcw:q7.heap.size≤q7.heap.size:=Nat.le_refl _;replace hvt:=vtm_upto hvt;have hcH:=hb_.size;replace RX:=keep hb_ RX
         replace HS:=sv_keep HS hb_ (by have:=hbr.size;omega)
         replace hbr:=Below.after hbr hb_;clear hb_;refine hK_ _ _ HS ?_;simp only[Act.put,ZPa,ZPb,ZPc,ZPd,ZPe,ZPf];clear hK_;refine wTy 8 ?v18 rfl ?y18 HS ?r18
         case y18=>
          intro w_ hS_;go_simp
          try with_reducible rfl
         simp only[Act.put,ZPa,ZPb,ZPc,ZPd,ZPe,ZPf];refine wTy 9 ?v19 rfl ?y19 HS ?r19
         case y19=>
          intro w_ hS_;go_simp
          try with_reducible rfl
         simp only[Act.put,ZPa,ZPb,ZPc,ZPd,ZPe,ZPf];refine wTy 10 ?v20 rfl ?y20 HS ?r20
         case y20=>
          intro w_ hS_;go_simp
          try with_reducible rfl
         simp only[Act.put,ZPa,ZPb,ZPc,ZPd,ZPe,ZPf]
         refine wpAnyH_one (k:=12) (fuel:=2) (by kernel_rfl) rfl (by kernel_rfl) (fun K_ hK_=>?_)
         refine wp_world_op (.pointer (some ⟨q7.heap.size,0,none⟩)) (q7.alloc (.cells #[.int .i64 0,.int .i64 0,.int .i64 0] 41)) (by kernel_rfl) ?_
         have hb_:Below q7.heap.size q7 (q7.alloc (.cells #[.int .i64 0,.int .i64 0,.int .i64 0] 41)):=(Below.refl _ _).alloc (Nat.le_refl _) _;have lo_gY:wr.heap.size≤q7.heap.size:=hbr.size;have lt_RX_gY:=lt_of_row RX;have lh_gY:=hcw;have RY:=hp1_0 q7 (.cells #[.int .i64 0,.int .i64 0,.int .i64 0] 41);replace RX:=keep hb_ RX;replace hvt:=hvt.blw hb_;replace hcw:=Nat.le_trans hcw hb_.size
         replace HS:=sv_keep HS hb_ (by have:=hbr.size;omega)
         replace hbr:=Below.after hbr hb_;clear hb_;refine hK_ _ _ HS ?_;simp only[Act.put,ZPa,ZPb,ZPc,ZPd,ZPe,ZPf];clear hK_
         generalize q7.alloc (.cells #[.int .i64 0,.int .i64 0,.int .i64 0] 41)=q8 at *
         generalize q7.heap.size=gY at *
         exact key0_ x fl fa fw gX gY q8 ⟨hbr,HS,RX,RY,by omega,by omega,by omega,hvt.wid (fun b hb_=>⟨⟨by omega,fun e=>by have:=hpor b e;omega⟩,by omega,by omega⟩),hfl⟩
        ·refine wp_world_op (.pointer (some ⟨q6.heap.size,0,none⟩)) (q6.alloc (.cells #[.int .i64 0,.int .i64 0,.int .i64 0] 41)) (by kernel_rfl) ?_
         have hb_:Below q6.heap.size q6 (q6.alloc (.cells #[.int .i64 0,.int .i64 0,.int .i64 0] 41)):=(Below.refl _ _).alloc (Nat.le_refl _) _
         have lo_gY:wr.heap.size≤q6.heap.size:=hbr.size;have lt_RX_gY:=lt_of_row RX;have RY:=hp1_0 q6 (.cells #[.int .i64 0,.int .i64 0,.int .i64 0] 41);replace RX:=keep hb_ RX
         replace HS:=sv_keep HS hb_ (by have:=hbr.size;omega)
         replace hbr:=Below.after hbr hb_;clear hb_;refine hK_ _ _ HS ?_;simp only[Act.put,ZPa,ZPb,ZPc,ZPd,ZPe,ZPf];clear hK_
         generalize q6.alloc (.cells #[.int .i64 0,.int .i64 0,.int .i64 0] 41)=q9 at *
         generalize q6.heap.size=gY at *
         refine wpAnyH_one (k:=7) (fuel:=5) (by kernel_rfl) rfl (by kernel_rfl) (fun K_ hK_=>?_)
         have lc_gX:=lt_of_row RX;have lc_gY:=lt_of_row RY;have hcL:=hbr.size
         refine wp_call_ex (f:=39) (R:=fun u w'=>(∃x fl fa fw,u=.tuple #[.agg (vrv x),.agg #[.int .i64 fl,.int .i64 fa,.int .i64 fw]]∧VtO w' (fun b=>q9.heap.size≤b) x (valU Fk X)∧flr Fk=#[.int .i64 fl,.int .i64 fa,.int .i64 fw])∧Below q9.heap.size q9 w') (by kernel_rfl) (cV.out q9 hbr) (fun v_ q10 hX_=>?_)
         obtain⟨⟨x,fl,fa,fw,rfl,hvt,hfl⟩,hb_⟩:=hX_
         have oneA:(vrv x).all (·.oneCell')=true:=by simp[vrv,vrw,Value.oneCell']
         have oneB:(#[Value.int .i64 fl,.int .i64 fa,.int .i64 fw]:Array Value).all (·.oneCell')=true:=by simp[Value.oneCell']
         have hcw:q10.heap.size≤q10.heap.size:=Nat.le_refl _;replace hvt:=vtm_upto hvt;have hcH:=hb_.size;replace RX:=keep hb_ RX;replace RY:=keep hb_ RY
         replace HS:=sv_keep HS hb_ (by have:=hbr.size;omega)
         replace hbr:=Below.after hbr hb_;clear hb_;refine hK_ _ _ HS ?_;simp only[Act.put,ZPa,ZPb,ZPc,ZPd,ZPe,ZPf];clear hK_;refine wTy 8 ?v21 rfl ?y21 HS ?r21
         case y21=>
          intro w_ hS_;go_simp
          try with_reducible rfl
         simp only[Act.put,ZPa,ZPb,ZPc,ZPd,ZPe,ZPf];refine wTy 9 ?v22 rfl ?y22 HS ?r22
         case y22=>
          intro w_ hS_;go_simp
          try with_reducible rfl
         simp only[Act.put,ZPa,ZPb,ZPc,ZPd,ZPe,ZPf];refine wTy 10 ?v23 rfl ?y23 HS ?r23
         case y23=>
          intro w_ hS_;go_simp
          try with_reducible rfl
         simp only[Act.put,ZPa,ZPb,ZPc,ZPd,ZPe,ZPf]
         exact key0_ x fl fa fw gX gY q10 ⟨hbr,HS,RX,RY,by omega,by omega,by omega,hvt.wid (fun b hb_=>⟨⟨by omega,fun e=>by have:=hpor b e;omega⟩,by omega,by omega⟩),hfl⟩
       ·refine wp_world_op (.pointer (some ⟨x1.heap.size,0,none⟩)) (x1.alloc (.cells #[.int .i64 0,.int .i64 0,.int .i64 0] 41)) (by kernel_rfl) ?_
        have hb_:Below x1.heap.size x1 (x1.alloc (.cells #[.int .i64 0,.int .i64 0,.int .i64 0] 41)):=(Below.refl _ _).alloc (Nat.le_refl _) _
        have lo_gY:wr.heap.size≤x1.heap.size:=hbr.size;have RY:=hp1_0 x1 (.cells #[.int .i64 0,.int .i64 0,.int .i64 0] 41)
        replace HS:=sv_keep HS hb_ (by have:=hbr.size;omega)
        replace hbr:=Below.after hbr hb_;clear hb_;refine hK_ _ _ HS ?_;simp only[Act.put,ZPa,ZPb,ZPc,ZPd,ZPe,ZPf];clear hK_
        generalize x1.alloc (.cells #[.int .i64 0,.int .i64 0,.int .i64 0] 41)=q11 at *
        generalize x1.heap.size=gY at *
        refine wpAnyH_two (j:=7) (k:=11) (fuel:=6) (by kernel_rfl) rfl rfl (by kernel_rfl) (by kernel_rfl) (fun K_ hK_=>?_) (fun K_ hK_=>?_)
        ·have lc_gY:=lt_of_row RY
         have hcL:=hbr.size
         refine wp_call_ex (f:=39) (R:=fun u w'=>(∃x fl fa fw,u=.tuple #[.agg (vrv x),.agg #[.int .i64 fl,.int .i64 fa,.int .i64 fw]]∧VtO w' (fun b=>q11.heap.size≤b) x (valU Fk X)∧flr Fk=#[.int .i64 fl,.int .i64 fa,.int .i64 fw])∧Below q11.heap.size q11 w') (by kernel_rfl) (cV.out q11 hbr) (fun v_ q12 hX_=>?_)
         obtain⟨⟨x,fl,fa,fw,rfl,hvt,hfl⟩,hb_⟩:=hX_
         have oneA:(vrv x).all (·.oneCell')=true:=by simp[vrv,vrw,Value.oneCell']
         have oneB:(#[Value.int .i64 fl,.int .i64 fa,.int .i64 fw]:Array Value).all (·.oneCell')=true:=by simp[Value.oneCell']
         have hcw:q12.heap.size≤q12.heap.size:=Nat.le_refl _;replace hvt:=vtm_upto hvt;have hcH:=hb_.size;replace RY:=keep hb_ RY
         replace HS:=sv_keep HS hb_ (by have:=hbr.size;omega)
         replace hbr:=Below.after hbr hb_;clear hb_;refine hK_ _ _ HS ?_;simp only[Act.put,ZPa,ZPb,ZPc,ZPd,ZPe,ZPf];clear hK_;refine wTy 8 ?v24 rfl ?y24 HS ?r24
         case y24=>
          intro w_ hS_;go_simp
          try with_reducible rfl
         simp only[Act.put,ZPa,ZPb,ZPc,ZPd,ZPe,ZPf];refine wTy 9 ?v25 rfl ?y25 HS ?r25
         case y25=>
          intro w_ hS_;go_simp
          try with_reducible rfl
         simp only[Act.put,ZPa,ZPb,ZPc,ZPd,ZPe,ZPf];refine wTy 10 ?v26 rfl ?y26 HS ?r26
         case y26=>
          intro w_ hS_;go_simp
          try with_reducible rfl
         simp only[Act.put,ZPa,ZPb,ZPc,ZPd,ZPe,ZPf]
         refine wpAnyH_one (k:=11) (fuel:=2) (by kernel_rfl) rfl (by kernel_rfl) (fun K_ hK_=>?_)
         refine wp_world_op (.pointer (some ⟨q12.heap.size,0,none⟩)) (q12.alloc (.cells #[.int .u64 0,nS,nS] 27)) (by kernel_rfl) ?_
         have hb_:Below q12.heap.size q12 (q12.alloc (.cells #[.int .u64 0,nS,nS] 27)):=(Below.refl _ _).alloc (Nat.le_refl _) _;have lo_gX:wr.heap.size≤q12.heap.size:=hbr.size;have lt_RY_gX:=lt_of_row RY;have lh_gX:=hcw;have RX:=hp1_0 q12 (.cells #[.int .u64 0,nS,nS] 27);replace RY:=keep hb_ RY;replace hvt:=hvt.blw hb_;replace hcw:=Nat.le_trans hcw hb_.size
         replace HS:=sv_keep HS hb_ (by have:=hbr.size;omega)
         replace hbr:=Below.after hbr hb_;clear hb_;refine hK_ _ _ HS ?_;simp only[Act.put,ZPa,ZPb,ZPc,ZPd,ZPe,ZPf];clear hK_
         generalize q12.alloc (.cells #[.int .u64 0,nS,nS] 27)=q13 at *
         generalize q12.heap.size=gX at *
         exact key0_ x fl fa fw gX gY q13 ⟨hbr,HS,RX,RY,by omega,by omega,by omega,hvt.wid (fun b hb_=>⟨⟨by omega,fun e=>by have:=hpor b e;omega⟩,by omega,by omega⟩),hfl⟩
        ·refine wp_world_op (.pointer (some ⟨q11.heap.size,0,none⟩)) (q11.alloc (.cells #[.int .u64 0,nS,nS] 27)) (by kernel_rfl) ?_
         have hb_:Below q11.heap.size q11 (q11.alloc (.cells #[.int .u64 0,nS,nS] 27)):=(Below.refl _ _).alloc (Nat.le_refl _) _
         have lo_gX:wr.heap.size≤q11.heap.size:=hbr.size;have lt_RY_gX:=lt_of_row RY;have RX:=hp1_0 q11 (.cells #[.int .u64 0,nS,nS] 27);replace RY:=keep hb_ RY
         replace HS:=sv_keep HS hb_ (by have:=hbr.size;omega)
         replace hbr:=Below.after hbr hb_;clear hb_;refine hK_ _ _ HS ?_;simp only[Act.put,ZPa,ZPb,ZPc,ZPd,ZPe,ZPf];clear hK_
         generalize q11.alloc (.cells #[.int .u64 0,nS,nS] 27)=q14 at *
         generalize q11.heap.size=gX at *
         refine wpAnyH_one (k:=7) (fuel:=5) (by kernel_rfl) rfl (by kernel_rfl) (fun K_ hK_=>?_)
         have lc_gX:=lt_of_row RX;have lc_gY:=lt_of_row RY;have hcL:=hbr.size
         refine wp_call_ex (f:=39) (R:=fun u w'=>(∃x fl fa fw,u=.tuple #[.agg (vrv x),.agg #[.int .i64 fl,.int .i64 fa,.int .i64 fw]]∧VtO w' (fun b=>q14.heap.size≤b) x (valU Fk X)∧flr Fk=#[.int .i64 fl,.int .i64 fa,.int .i64 fw])∧Below q14.heap.size q14 w') (by kernel_rfl) (cV.out q14 hbr) (fun v_ q15 hX_=>?_)
         obtain⟨⟨x,fl,fa,fw,rfl,hvt,hfl⟩,hb_⟩:=hX_
         have oneA:(vrv x).all (·.oneCell')=true:=by simp[vrv,vrw,Value.oneCell']
         have oneB:(#[Value.int .i64 fl,.int .i64 fa,.int .i64 fw]:Array Value).all (·.oneCell')=true:=by simp[Value.oneCell']
         have hcw:q15.heap.size≤q15.heap.size:=Nat.le_refl _;replace hvt:=vtm_upto hvt;have hcH:=hb_.size;replace RY:=keep hb_ RY;replace RX:=keep hb_ RX
         replace HS:=sv_keep HS hb_ (by have:=hbr.size;omega)
         replace hbr:=Below.after hbr hb_;clear hb_;refine hK_ _ _ HS ?_;simp only[Act.put,ZPa,ZPb,ZPc,ZPd,ZPe,ZPf];clear hK_;refine wTy 8 ?v27 rfl ?y27 HS ?r27
         case y27=>
          intro w_ hS_;go_simp
          try with_reducible rfl
         simp only[Act.put,ZPa,ZPb,ZPc,ZPd,ZPe,ZPf];refine wTy 9 ?v28 rfl ?y28 HS ?r28
         case y28=>
          intro w_ hS_;go_simp
          try with_reducible rfl
         simp only[Act.put,ZPa,ZPb,ZPc,ZPd,ZPe,ZPf];refine wTy 10 ?v29 rfl ?y29 HS ?r29
         case y29=>
          intro w_ hS_;go_simp
          try with_reducible rfl
         simp only[Act.put,ZPa,ZPb,ZPc,ZPd,ZPe,ZPf]
         exact key0_ x fl fa fw gX gY q15 ⟨hbr,HS,RX,RY,by omega,by omega,by omega,hvt.wid (fun b hb_=>⟨⟨by omega,fun e=>by have:=hpor b e;omega⟩,by omega,by omega⟩),hfl⟩
      rintro x fl fa fw gX gY c0 ⟨hbr,HS,RX,RY,hgx_,hgy_,hgn_,hvt,hfl⟩
      have oneA:(vrv x).all (·.oneCell')=true:=by simp[vrv,vrw,Value.oneCell']
      have oneB:(#[Value.int .i64 fl,.int .i64 fa,.int .i64 fw]:Array Value).all (·.oneCell')=true:=by simp[Value.oneCell']
      have hcw:=Nat.le_refl c0.heap.size
      refine wpAnyH_one (k:=13) (fuel:=1) (by kernel_rfl) rfl (by kernel_rfl) (fun K_ hK_=>?_)
      refine wp_store_row 27 _ _ rfl gX (vrv x) rfl rfl 27 _ RX infoV rfl oneA ?_
      replace RY:=(setRow_other c0 gX gY (vrv x) (by omega)).trans RY
      replace hvt:=hvt.other gX (vrv x) (fun b hb_=>⟨by omega,hb_⟩)
      replace RX:=setRow_heap c0 gX _ ((vrv x)) _ _ RX
      replace hbr:=below_setRow hbr (show wr.heap.size≤gX by omega) (vrv x)
      replace HS:=sv_set (q:=gX) HS (vrv x) (by omega) (by omega)
      have hse:(c0.setRow gX (vrv x)).heap.size=c0.heap.size:=by simp[World.setRow]
      rw[←hse] at hcw;clear hse;refine hK_ _ _ HS ?_;simp only[Act.put,ZPa,ZPb,ZPc];clear hK_
      generalize c0.setRow gX (vrv x)=q16 at *
      refine wpAnyH_one (k:=14) (fuel:=0) (by kernel_rfl) rfl (by kernel_rfl) (fun K_ hK_=>?_)
      refine wp_store_row 41 _ _ rfl gY #[.int .i64 fl,.int .i64 fa,.int .i64 fw] rfl rfl 41 _ RY infoFt rfl oneB ?_
      replace RX:=(setRow_other q16 gY gX #[.int .i64 fl,.int .i64 fa,.int .i64 fw] (by omega)).trans RX
      replace hvt:=hvt.other gY #[.int .i64 fl,.int .i64 fa,.int .i64 fw] (fun b hb_=>⟨by omega,hb_⟩)
      replace RY:=setRow_heap q16 gY _ (#[.int .i64 fl,.int .i64 fa,.int .i64 fw]) _ _ RY
      replace hbr:=below_setRow hbr (show wr.heap.size≤gY by omega) #[.int .i64 fl,.int .i64 fa,.int .i64 fw]
      replace HS:=sv_set (q:=gY) HS #[.int .i64 fl,.int .i64 fa,.int .i64 fw] (by omega) (by omega)
      have hse:(q16.setRow gY #[.int .i64 fl,.int .i64 fa,.int .i64 fw]).heap.size=q16.heap.size:=by simp[World.setRow]
      rw[←hse] at hcw;clear hse;refine hK_ _ _ HS ?_;simp only[Act.put,ZPa,ZPb,ZPc];clear hK_
      generalize q16.setRow gY #[.int .i64 fl,.int .i64 fa,.int .i64 fw]=q17 at *
      refine wpAnyH_done (by kernel_rfl) ?_ _
      exact key_ x fl fa fw gX gY q17 ⟨hbr,RX,RY,by omega,by omega,by omega,hvt.wid (fun b hb_=>hb_.1),hfl⟩
     rintro⟨xn,xda,xdl,xdc,xpa,xpl,xpc⟩ fl fa fw gX gY z0 ⟨hbr,RX,RY,hgx_,hgy_,hgn_,hvt,hfl⟩;replace RX:z0.heap[gX]? =some (.cells #[.int .u64 (xn:Int),.slice xda xdl xdc,.slice xpa xpl xpc] 27 (0,0)):=RX
     cases Fk with
     |some fl_=>
      have eR:Hid (R=some fl_):=hide eR2.out;obtain rfl:=flr_some hfl;have hfw:fw≠0:=hfwk _ rfl
      have oneA:(#[Value.int .u64 0,nS,nS]:Array Value).all (·.oneCell')=true:=by simp[Value.oneCell']
      have oneB:(#[Value.int .i64 fl,.int .i64 fa,.int .i64 fw]:Array Value).all (·.oneCell')=true:=by simp[Value.oneCell']
      have bE:(fw !=0)=true:=by simpa using hfw
      have bE2:(fw==0)=false:=by simpa using hfw
      clear eR2 hvt hfl cV;have cW:=cell_of_row _ _ 2 _ _ _ RY;have RV:=keep hbr RVr.out;have RE:=keep hbr REr.out
      have hw:=(hwr.out.trans (hbr.mono (by have:=hwr.out.size;omega)))
      clear RX;have l6:=lt_of_row RV;have l7:=lt_of_row RE
      go_upto_region 21 with(fail)
      clear cW;have hbd:Below z0.heap.size z0 z0.drew:=below_drN (Below.refl _ _) 1;replace RY:=keep hbd RY;replace RV:=keep hbd RV;replace RE:=keep hbd RE;replace hw:=Below.after hw hbd;clear hbd
      refine wp_region_held (S:=fun W:World=>W.heap[gY]? =some (.cells #[.int .i64 fl,.int .i64 fa,.int .i64 fw] 41 (0,0))) (by kernel_rfl) ?_
      change wpAnyH _ _ _ _ _ _ _ _ (World.drew _)
      generalize z0.drew=z1 at *
      refine wTy 0 (.agg #[.int .u64 0,nS,nS]) rfl ?y30 RY ?r30
      case y30=>
       intro w_ hS_;go_simp
       try with_reducible rfl
      simp only[Act.put,ZPa,ZPc,ZPd,ZPe,ZPf]
      refine wTk (i:=1) (v:=.agg #[.int .i64 fl,.int .i64 fa,.int .i64 fw]) rfl (yieldsIf_load_mid (by rfl) 41 _ rfl gY 0 rfl [.int .i64 fl,.int .i64 fa,.int .i64 fw] _ (fun _ h=>range_row ⟨_,h⟩) Tryz.underlying41 rfl infoFt) RY ?_
      simp only[Act.put,ZPa,ZPb,ZPc,ZPd,ZPe,ZPf]
      refine wpAnyH_one (k:=2) (fuel:=1) (by kernel_rfl) rfl (by kernel_rfl) (fun K_ hK_=>?_)
      refine wp_store_row 27 _ _ rfl (w.heap.size+1+1) #[.int .u64 0,nS,nS] rfl rfl 27 _ RV infoV rfl oneA ?_
      replace RY:=(setRow_other z1 (w.heap.size+1+1) gY #[.int .u64 0,nS,nS] (by omega)).trans RY
      replace RE:=(setRow_other z1 (w.heap.size+1+1) (w.heap.size+1+1+1) #[.int .u64 0,nS,nS] (by omega)).trans RE
      replace RV:=setRow_heap z1 (w.heap.size+1+1) _ (#[.int .u64 0,nS,nS]) _ _ RV
      replace hw:=below_setRow hw (show w.heap.size≤w.heap.size+1+1 by omega) #[.int .u64 0,nS,nS]
      refine hK_ _ _ RY ?_;simp only[Act.put,ZPa,ZPb,ZPc];clear hK_
      generalize z1.setRow (w.heap.size+1+1) #[.int .u64 0,nS,nS]=z2 at *
      refine wpAnyH_one (k:=3) (fuel:=0) (by kernel_rfl) rfl (by kernel_rfl) (fun K_ hK_=>?_)
      refine wp_store_row 41 _ _ rfl (w.heap.size+1+1+1) #[.int .i64 fl,.int .i64 fa,.int .i64 fw] rfl rfl 41 _ RE infoFt rfl oneB ?_
      replace RY:=(setRow_other z2 (w.heap.size+1+1+1) gY #[.int .i64 fl,.int .i64 fa,.int .i64 fw] (by omega)).trans RY
      replace RV:=(setRow_other z2 (w.heap.size+1+1+1) (w.heap.size+1+1) #[.int .i64 fl,.int .i64 fa,.int .i64 fw] (by omega)).trans RV
      replace RE:=setRow_heap z2 (w.heap.size+1+1+1) _ (#[.int .i64 fl,.int .i64 fa,.int .i64 fw]) _ _ RE
      replace hw:=below_setRow hw (show w.heap.size≤w.heap.size+1+1+1 by omega) #[.int .i64 fl,.int .i64 fa,.int .i64 fw]
      refine hK_ _ _ RY ?_;simp only[Act.put,ZPa,ZPb,ZPc];clear hK_
      refine wpAnyH_done (by kernel_rfl) ?_ _
      go_wp2_with (fail)
      exact bodyPost_ret (v:=.tuple #[.agg #[.int .u64 0,nS,nS],.agg #[.int .i64 fl,.int .i64 fa,.int .i64 fw]]) (results_cell_cell Tryz.results63 _ _ (w.heap.size+1+1) (w.heap.size+1+1+1) _ _ _ _ _ _ _ _ rfl RV Tryz.underlying27 rfl infoV rfl RE Tryz.underlying41 rfl infoFt) rfl (by unfold VaQ;rw[eR.out];exact⟨rfl,hw⟩)
     |none=>
      have eR:Hid (R=itN dec (bss.drop (k+1)) (F+(H:Int)+(L:Int))):=hide eR2.out;obtain⟨rfl,rfl,rfl⟩:=flr_none hfl;clear eR2 hfl cV;have cY:=cell_of_row _ _ 2 _ _ _ RY;have RVb:=keep hbr RVbr.out;have hPw:=hPr.out.keep hbr;have cP:=cell_of_row _ _ 2 _ _ _ RVb;have hbz:=hbr.size;have NVc:=new_cells4 z0 #[.int .u64 (xn:Int),.slice xda xdl xdc,.slice xpa xpl xpc] 27;have hb_:Below z0.heap.size z0 (z0.alloc (.cells #[.int .u64 (xn:Int),.slice xda xdl xdc,.slice xpa xpl xpc] 27)):=(Below.refl _ _).alloc (Nat.le_refl _) _;have R1:=hide (keep hb_ RVb);have P1:=hide (hPw.keep hb_);have v1:=hide (hvt.blw hb_);have B1:=hide (Below.after (Below.after hby hbr) hb_);have I1:=hide hby;clear hb_ hbr RVb hPw hvt;obtain⟨iV,hiV,hiz,his,hib⟩:=infoVI;have hOk:=P1.out.1;rw[hlk] at hOk;have hpo1:=own_high_row hOk
      go_wp2_with (first|(refine wpList_load_want rfl 27 _ rfl gX rfl 27 #[.int .u64 (xn:Int),.slice xda xdl xdc,.slice xpa xpl xpc] (0,0) _ RX Tryz.underlying27 rfl infoV ?_)|(at_builtin;refine wpList_plain rfl fun K_ hKp=>wp_append_nx _ _ 25 rfl (w6.heap.size+1) 27 iV (.agg #[.int .u64 0,nS,nS]) 3 56 Tryz.underlying25 hiV hiz his hib rfl (by decide) (.slice pva k pvc) k (vrs xs) rfl hOk ⟨z0.heap.size,0,none⟩ 1 1 [.int .u64 (xn:Int),.slice xda xdl xdc,.slice xpa xpl xpc] rfl rfl NVc (fun x hx=>by simp at hx;rcases hx with rfl|rfl|rfl<;>rfl) (by unfold maxLen;omega) (by omega) (by have:=B1.out.size;simp;omega) ?_)|fail)
      intro pv' x4 hO4 hgr hnx;refine hKp _ _ ?_;clear hKp
      have P4:=P1.out.snoc v1.out (by rw[hlk];exact hO4) hgr hnx
      have R4:=(hgr.block w6.heap.size (by simp;omega) (fun e=>by have:=(hpo1 _ e.symm).1;omega)).trans R1.out
      have szB1:=B1.out.size
      have B4:=B1.out.grown hgr szB1 (fun z e=>by have:=(hpo1 z e).1;omega)
      obtain⟨po,pc,rfl⟩:=own_slice hO4;have R5:=hide (setRow_heap x4 (w6.heap.size) _ #[.int .u64 0,nS,.slice po (k+1) pc] _ _ R4);have B5:=hide (below_setRow (g:=w6.heap.size) B4 (Nat.le_refl _) #[.int .u64 0,nS,.slice po (k+1) pc])
      have P5:=hide (P4.oth (w6.heap.size) #[.int .u64 0,nS,.slice po (k+1) pc] (by omega) (by omega))
      have c5:=(B5.out.cell (p:=⟨gx,off+k,none⟩) hgx).trans hcell6.out;clear R1 P1 v1 B1 B4 P4 hO4 hgr hnx NVc cP RX RY hpo1 szB1 hOk cY
      go_wp2_with (first|(refine wpList_store_cellY rfl 25 _ _ rfl (w6.heap.size) 2 (.slice po (k+1) pc) rfl rfl 27 #[.int .u64 0,nS,.slice pva k pvc] #[.int .u64 0,nS,.slice po (k+1) pc] R4 (by show 2<3;decide) rfl infoVSY rfl ?_)|fail)
      refine⟨⟨k+1,F+(H:Int)+(L:Int),_,_,by omega,by go_num,rfl,by omega,by have:=hJk.out;omega,eR.out,R5.out,by rw[hmap.out];exact P5.out,B5.out⟩,?_⟩
      simp[intOf];omega
    ·obtain rfl:k=bss.length:=by omega
     have hd2:decide ((bss.length:Int)<(bss.length:Int))=false:=by simp
     have eR2:Hid (R=none):=hide (by rw[eR,List.drop_length,itN])
     rw[List.take_length] at hP
     obtain⟨pa,pc,epv,hmsg⟩:=hP.msg (Nat.le_refl _) (by rw[List.length_map];omega)
     rw[List.length_map] at epv hmsg
     injection epv with ep1 ep2 ep3
     subst ep1 ep3;have szy:=hby.size;have lS:=lt_of_row RS6.out;have lVe:=lt_of_row RE6.out
     have RV:=(hby.block (w.heap.size+1+1) (by omega)).trans RV6.out
     have RE:=(hby.block (w.heap.size+1+1+1) (by omega)).trans RE6.out
     have hw:=hw6.out.trans (hby.mono (by omega))
     have oneA:(#[Value.int .u64 0,nS,.slice pva bss.length pvc]:Array Value).all (·.oneCell')=true:=by simp[Value.oneCell']
     have oneB:(#[Value.int .i64 0,.int .i64 0,.int .i64 0]:Array Value).all (·.oneCell')=true:=by simp[Value.oneCell']
     have hm8:=hmsg.other (w.heap.size+1+1) #[.int .u64 0,nS,.slice pva bss.length pvc] (T:=fun b=>w6.heap.size+1≤b) (fun b hb_=>⟨by omega,hb_⟩)
     have hm9:=hm8.other (w.heap.size+1+1+1) #[.int .i64 0,.int .i64 0,.int .i64 0] (T:=fun b=>P b∨w.heap.size≤b) (fun b hb_=>⟨by omega,.inr (by omega)⟩)
     clear hm8 hmsg hP hI6 HC HC0 eR
     go_wp2_with (first|(refine wpList_load_want rfl 27 _ rfl w6.heap.size rfl 27 #[.int .u64 0,nS,.slice pva bss.length pvc] (0,0) _ RVb Tryz.underlying27 rfl infoV ?_)|(refine wpList_build_want rfl 41 _ rfl [] rfl #[.int .i64 0,.int .i64 0,.int .i64 0] builtZeR ?_)|(refine wpList_store_row rfl 27 _ _ rfl (w.heap.size+1+1) #[.int .u64 0,nS,.slice pva bss.length pvc] rfl rfl 27 _ RV infoV rfl oneA ?_)|(refine wpList_store_row rfl 41 _ _ rfl (w.heap.size+1+1+1) #[.int .i64 0,.int .i64 0,.int .i64 0] rfl rfl 41 _ ((setRow_other wr (w.heap.size+1+1) (w.heap.size+1+1+1) #[.int .u64 0,nS,.slice pva bss.length pvc] (by omega)).trans RE) infoFt rfl oneB ?_)|fail)
     replace RE:=(setRow_other wr (w.heap.size+1+1) (w.heap.size+1+1+1) #[.int .u64 0,nS,.slice pva bss.length pvc] (by omega)).trans RE
     replace RV:=setRow_heap wr (w.heap.size+1+1) _ (#[.int .u64 0,nS,.slice pva bss.length pvc]) _ _ RV
     replace hw:=below_setRow hw (show w.heap.size≤w.heap.size+1+1 by omega) #[.int .u64 0,nS,.slice pva bss.length pvc]
     generalize wr.setRow (w.heap.size+1+1) #[.int .u64 0,nS,.slice pva bss.length pvc]=w8 at *
     replace RV:=(setRow_other w8 (w.heap.size+1+1+1) (w.heap.size+1+1) #[.int .i64 0,.int .i64 0,.int .i64 0] (by omega)).trans RV
     replace RE:=setRow_heap w8 (w.heap.size+1+1+1) _ (#[.int .i64 0,.int .i64 0,.int .i64 0]) _ _ RE
     replace hw:=below_setRow hw (show w.heap.size≤w.heap.size+1+1+1 by omega) #[.int .i64 0,.int .i64 0,.int .i64 0]
     exact bodyPost_ret (v:=.tuple #[.agg #[.int .u64 0,nS,.slice pva bss.length pvc],.agg #[.int .i64 0,.int .i64 0,.int .i64 0]]) (results_cell_cell Tryz.results63 _ _ (w.heap.size+1+1) (w.heap.size+1+1+1) _ _ _ _ _ _ _ _ rfl RV Tryz.underlying27 rfl infoV rfl RE Tryz.underlying41 rfl infoFt) rfl (by unfold VaQ;rw[eR2.out,←hXX.out];exact⟨⟨⟨0,none,0,0,pva,bss.length,pvc⟩,rfl,hm9⟩,hw⟩)
  ·have b1:(wth (bss.length:Int) (l:Int) (m:Int)==0)=false:=by simpa using hwt
   rw[if_pos hwt,wth_83 hwt] at hRO
   have eR:Hid (RO=some ⟨0,here,83⟩):=hide hRO.symm;rw[b1];have RV:=RV6.out;have RE:=RE6.out;have hw:=hw6.out;clear RV6 RE6 hw6 hI6 RS6 HC HC0 hRO
   have oneA:(#[Value.int .u64 0,nS,nS]:Array Value).all (·.oneCell')=true:=by simp[Value.oneCell']
   have oneB:(#[Value.int .i64 0,.int .i64 here,.int .i64 83]:Array Value).all (·.oneCell')=true:=by simp[Value.oneCell']
   have cA:=hide (r_at (here) (83) w6);replace hw:=hide hw;replace RV:=hide RV;replace RE:=hide RE
   go_wp2_with (first|(refine wpList_build_want rfl 27 _ rfl [] rfl #[.int .u64 0,nS,nS] builtZvR ?_)|fail)
   refine cA.out.mono ?_;rintro e_ x2 ⟨rfl,hb2⟩;replace RV:=keep hb2 RV.out;replace RE:=keep hb2 RE.out;replace hw:=Below.after hw.out hb2;clear hb2 cA
   go_wp2_with (first|(refine wpList_store_row rfl 27 _ _ rfl (w.heap.size+1+1) #[.int .u64 0,nS,nS] rfl rfl 27 _ RV infoV rfl oneA ?_)|(refine wpList_store_row rfl 41 _ _ rfl (w.heap.size+1+1+1) #[.int .i64 0,.int .i64 here,.int .i64 83] rfl rfl 41 _ ((setRow_other x2 (w.heap.size+1+1) (w.heap.size+1+1+1) #[.int .u64 0,nS,nS] (by omega)).trans RE) infoFt rfl oneB ?_)|fail)
   replace RE:=(setRow_other x2 (w.heap.size+1+1) (w.heap.size+1+1+1) #[.int .u64 0,nS,nS] (by omega)).trans RE
   replace RV:=setRow_heap x2 (w.heap.size+1+1) _ (#[.int .u64 0,nS,nS]) _ _ RV
   replace hw:=below_setRow hw (show w.heap.size≤w.heap.size+1+1 by omega) #[.int .u64 0,nS,nS]
   generalize x2.setRow (w.heap.size+1+1) #[.int .u64 0,nS,nS]=x3 at *
   replace RV:=(setRow_other x3 (w.heap.size+1+1+1) (w.heap.size+1+1) #[.int .i64 0,.int .i64 here,.int .i64 83] (by omega)).trans RV
   replace RE:=setRow_heap x3 (w.heap.size+1+1+1) _ (#[.int .i64 0,.int .i64 here,.int .i64 83]) _ _ RE
   replace hw:=below_setRow hw (show w.heap.size≤w.heap.size+1+1+1 by omega) #[.int .i64 0,.int .i64 here,.int .i64 83]
   exact bodyPost_ret (v:=.tuple #[.agg #[.int .u64 0,nS,nS],.agg #[.int .i64 0,.int .i64 here,.int .i64 83]]) (results_cell_cell Tryz.results63 _ _ (w.heap.size+1+1) (w.heap.size+1+1+1) _ _ _ _ _ _ _ _ rfl RV Tryz.underlying27 rfl infoV rfl RE Tryz.underlying41 rfl infoFt) rfl (by unfold VaQ;rw[eR.out];exact⟨rfl,hw⟩)
 ·have eR:Hid (RO=some ⟨0,data+spa (sp d),spe (sp d)⟩):=hide (by have:=hRO.out;rw[if_pos hse] at this;exact this.symm)
  have b1:(spe (sp d) !=0)=true:=by simpa using hse
  have b2:(spe (sp d)==0)=false:=by simpa using hse
  have q3:IntKind.wrap .i64 (data+spa (sp d))=data+spa (sp d):=by rw[IntKind.wrap_i64];omega
  clear hRO HC HC0 hI hsp RS
  generalize spe (sp d)=E at *
  generalize spa (sp d)=pl at *
  have oneA:(#[Value.int .u64 0,nS,nS]:Array Value).all (·.oneCell')=true:=by simp[Value.oneCell']
  have oneB:(#[Value.int .i64 0,.int .i64 (data+pl),.int .i64 E]:Array Value).all (·.oneCell')=true:=by simp[Value.oneCell']
  have cA:=hide (r_at ((data+pl)) (E) w5);replace hw:=hide hw;replace RV:=hide RV;replace RE:=hide RE
  go_wp2_with (first|(refine wpList_build_want rfl 27 _ rfl [] rfl #[.int .u64 0,nS,nS] builtZvR ?_)|fail)
  refine cA.out.mono ?_;rintro e_ x2 ⟨rfl,hb2⟩;replace RV:=keep hb2 RV.out;replace RE:=keep hb2 RE.out;replace hw:=Below.after hw.out hb2;clear hb2 cA
  go_wp2_with (first|(refine wpList_store_row rfl 27 _ _ rfl (w.heap.size+1+1) #[.int .u64 0,nS,nS] rfl rfl 27 _ RV infoV rfl oneA ?_)|(refine wpList_store_row rfl 41 _ _ rfl (w.heap.size+1+1+1) #[.int .i64 0,.int .i64 (data+pl),.int .i64 E] rfl rfl 41 _ ((setRow_other x2 (w.heap.size+1+1) (w.heap.size+1+1+1) #[.int .u64 0,nS,nS] (by omega)).trans RE) infoFt rfl oneB ?_)|fail)
  replace RE:=(setRow_other x2 (w.heap.size+1+1) (w.heap.size+1+1+1) #[.int .u64 0,nS,nS] (by omega)).trans RE
  replace RV:=setRow_heap x2 (w.heap.size+1+1) _ (#[.int .u64 0,nS,nS]) _ _ RV
  replace hw:=below_setRow hw (show w.heap.size≤w.heap.size+1+1 by omega) #[.int .u64 0,nS,nS]
  generalize x2.setRow (w.heap.size+1+1) #[.int .u64 0,nS,nS]=x3 at *
  replace RV:=(setRow_other x3 (w.heap.size+1+1+1) (w.heap.size+1+1) #[.int .i64 0,.int .i64 (data+pl),.int .i64 E] (by omega)).trans RV
  replace RE:=setRow_heap x3 (w.heap.size+1+1+1) _ (#[.int .i64 0,.int .i64 (data+pl),.int .i64 E]) _ _ RE
  replace hw:=below_setRow hw (show w.heap.size≤w.heap.size+1+1+1 by omega) #[.int .i64 0,.int .i64 (data+pl),.int .i64 E]
  exact bodyPost_ret (v:=.tuple #[.agg #[.int .u64 0,nS,nS],.agg #[.int .i64 0,.int .i64 (data+pl),.int .i64 E]]) (results_cell_cell Tryz.results63 _ _ (w.heap.size+1+1) (w.heap.size+1+1+1) _ _ _ _ _ _ _ _ rfl RV Tryz.underlying27 rfl infoV rfl RE Tryz.underlying41 rfl infoFt) rfl (by unfold VaQ;rw[eR.out];exact⟨rfl,hw⟩)
end Go.Proofs.YtmmlkfkpblokiaaGreatDoor
