import Derived.Test.YtmmlkfkpblokiaaGreatDoorProg
import Derived.WalkKit
import Derived.WalkSpells
import Derived.WalkLawsBesides
import Derived.Lib.QuietBelow
import Derived.Laws.BitsAllLaws
import Derived.BigQuiet
import Derived.WalkMore
import Derived.Test.YtmmlkfkpblokiaaGreatDoorQdOpen
import Derived.Maps.AppendAt
import Derived.RangeFuncBox
import Derived.Test.YtmmlkfkpblokiaaGreatDoorQdXda
import Derived.Test.YtmmlkfkpblokiaaGreatDoorQdIrb
import Derived.OrdersHeld
import Derived.Deep.RegionHeld3
import Derived.ProofKit
import Derived.OpenShut
import Derived.ChangeSlices
import Derived.ChangeArms
import Derived.SizedLaws
import Derived.Test.YtmmlkfkpblokiaaGreatDoorQdWq
import Derived.Deep.Slices
namespace Go.Proofs.YtmmlkfkpblokiaaGreatDoor
set_option maxRecDepth 100000
open Go Go.RowKit Go.Sort
attribute [local go_sem] setCell_drewN alloc_drewN
open Go.Shelf
attribute [local go_sem] Oper.semAt_some
theorem wp_range_bound {P:Program} {g:Operand} {ps:Array Tmp} {assign body:Code} {Q:Exit→Act→World→Prop} {a:Act} {w:World} {gf:Nat} {r:Value} (hg:a.eval g=.func (.func gf) #[r] #[]) (eg:∀args w,(callFunc gf args).run P w=.ok (.enter gf args) w)
 (h:∀(fn:FuncId) (rec:LoopState→Option Code→Loop),rec=(fun st pe=>{state:=st,pending:=pe,fn,tmps:=a.tmps,params:=ps,assign,body,defers:=w.heap.size})→
  Calls P gf #[r,.func (.yield (w.heap.size+1)) #[] #[]] ((w.alloc (.deferred (some []))).alloc (.loop (rec .ready none))) fun e w'=>(∃v,e=.returned v)∧w'.heap[w.heap.size+1]? =some (.loop (rec .ready none))∧Q .normal {a with defers:={target:=.collected w.heap.size,args:=#[]}::a.defers} (w'.putObj (w.heap.size+1) (.loop (rec .exhausted none)))):
 (Code.rangeFunc g ps assign body).wp P Q a w:=by
 refine(wpIn_wide (n:=4)).1 (wpIn_rangeFunc (F:=Fence.wide) ?_);intro fn hfn;obtain⟨W1,hW1⟩:∃W1,(w.alloc (.deferred (some []))).alloc (.loop {state:=.ready,pending:=none,fn,tmps:=a.tmps,params:=ps,assign,body,defers:=w.heap.size})=W1:=⟨_,rfl⟩;refine⟨w.heap.size+1,[{target:=.collected w.heap.size,args:=#[]}],W1,{target:=.fn (.func gf) #[],args:=#[r,.func (.yield (w.heap.size+1)) #[] #[]]},W1,gf,#[r,.func (.yield (w.heap.size+1)) #[] #[]],W1,?_,?_,?_,?_,?_,?_⟩
 ·rw[←hW1];exact run_enterLoop_outer _ _ _ _ _
 ·simp only[resolve,hg]
  simp[go_sem]
 ·exact fun _ _=>trivial
 ·simp[invoke,go_sem,eg]
 ·exact fun _=>by decide
 ·rw[←hW1]
  refine callsIn_wide.2 ((h fn _ rfl).mono ?_)
  rintro e w3 ⟨⟨v,rfl⟩,hl,hq⟩
  exact⟨none,_,run_endLoop hl (by simp),hq⟩
theorem wpIn_of_value {F:Fence} {n:Nat} {P:Program} {o:Oper} {a:Act} {w:World} {K:Act→World→Prop} {Q:Exit→Act→World→Prop} {v:Value} {w':World} (h:o.wp P a w K Q) (hab:o.about P w a.eval=none) (hpl:∀c,o.op≠.defer c) (hr:(execOp a.eval o).run P w=.ok (.value v) w'):o.wpIn F n P a w K Q:=by
 refine⟨fun f hf=>(by rw[hab] at hf;cases hf),?_⟩
 rw[Oper.semAt_plain F _ _ hpl,hr,Oper.uponIn_value];unfold Oper.wp at h;rw[hr,Oper.upon_value] at h;exact h
theorem wpListIn_append_F {F:Fence} {n:Nat} {w:World} {ops:Array Oper} {rest:List Oper} {o:Oper} {a:Act} {Q:Exit→Act→World→Prop} (hgd:o.guard=none) (s x:Operand)
 (ho:o.op=.call {callee:=.builtin .append,args:=#[s,x],argTypes:=#[116,116]})
 (base:Nat) (v:Value) (us:List Value) (fs:List Fd) (hs:a.eval s=v) (L:Nat) (hI:Fts w base v us fs) (hL:∀k,v.ownBlock=some k→k<L) (hLi:∀i,i<us.length→∀k,(gv us i).ownBlock=some k→k<L) (hbL:base≤L)
 (u:Value) (f:Fd) (hu:Own w L u f.dat) (g:Nat) (hx:a.eval x=.slice (some ⟨g,0,none⟩) 1 1) (hnews:∀j x,(frow f u)[j]? =some x→w.cell? ((⟨g,0,none⟩:Addr).add j)=some x)
 (hlen:fs.length<2932031007317) (hbase:base≤w.heap.size)
 (h:∀v' w',Fts w' base v' (us++[u]) (fs++[f])→w.grownBy w' v.ownBlock→Nx w v v'→wpListIn F n Tryz.prog ops Q rest (a.put o.dst v') w'):wpListIn F n Tryz.prog ops Q (o::rest) a w:=by
 obtain⟨i0,hi,hz0,hz1,hz2⟩:=info48
 have hone:∀x∈frow f u,x.oneCell'=true:=by
  intro x hx;obtain⟨ao,cap,rfl⟩:=slen_own hu
  simp[frow] at hx
  rcases hx with rfl|rfl|rfl|rfl<;>rfl
 have hm:fs.length+1≤maxLen:=by unfold maxLen;omega
 obtain⟨v1,w1,hr,_,_,_⟩:=run_append_own (P:=Tryz.prog) w base 116 o.type 118 i0 (.agg #[.int .i64 0,.int .i64 0,.int .u64 0,.slice none 0 0]) 4 48 Tryz.underlying116 hi hz0 hz1 hz2 rfl (by decide) v fs.length (frs fs us) hI.1 ⟨g,0,none⟩ 1 1 (frow f u) rfl hnews hone hm (by omega) hbase
 refine wpListIn_plain hgd fun _ hK=>wpIn_of_value (v:=v1) (w':=w1) (wp_append_nx s x 116 ho base 118 i0 (.agg #[.int .i64 0,.int .i64 0,.int .u64 0,.slice none 0 0]) 4 48 Tryz.underlying116 hi hz0 hz1 hz2 rfl (by decide) v fs.length (frs fs us) hs hI.1 ⟨g,0,none⟩ 1 1 (frow f u) hx rfl hnews hone hm (by omega) hbase (fun v' w' h1 h2 h3=>hK _ _ (h v' w' (hI.snoc hL hLi hbL hu h1 h2 h3) h2 h3))) ?_ ?_ ?_
 ·simp[Oper.about,ho,resolve,Target.leads,Sem.run_pure]
 ·rw[ho];intro c hc;cases hc
 ·simp[execOp,ho,resolve,invoke,builtin,hs,hx,hr,Result.andThen]
theorem wpListIn_alloc {F:Fence} {n:Nat} {P:Program} {ops:Array Oper} {rest:List Oper} {o:Oper} {a:Act} {w:World} {Q:Exit→Act→World→Prop} (hgd:o.guard=none) (ty:TypeId) (ho:o.op=.alloc ty) (cs:Array Value)
 (hz:∀W,(Instr.alloc ty true (.tuple #[])).run P W=.ok (.pointer (some ⟨W.heap.size,0,none⟩)) (W.alloc (.cells cs ty)))
 (h:wpListIn F n P ops Q rest (a.put o.dst (.pointer (some ⟨w.heap.size,0,none⟩))) (w.alloc (.cells cs ty))):wpListIn F n P ops Q (o::rest) a w:=by
 refine wpListIn_plain hgd fun K hK=>⟨fun f hf=>(by simp[Oper.about,ho] at hf),?_⟩
 rw[Oper.semAt_plain F _ _ (by rw[ho];intro c hc;cases hc)]
 unfold execOp;simp only[ho,Sem.run_bind,hz,Result.andThen_ok,Sem.run_pure];exact hK _ _ h
theorem wpListIn_store_row {F:Fence} {n:Nat} {P:Program} {ops:Array Oper} {rest:List Oper} {o:Oper} {a:Act} {w:World} {Q:Exit→Act→World→Prop} (hgd:o.guard=none) (ty:TypeId) (x y:Operand) (ho:o.op=.store ty x y)
 (g:Nat) (cells:Array Value) (hx:a.eval x=.pointer (some ⟨g,0,none⟩)) (hy:a.eval y=.agg cells)
 (t:TypeId) (old:Array Value) (hr:w.heap[g]? =some (.cells old t (0,0))) (hi:(P.info? ty).map (·.size)=some cells.size)
 (hold:old.size=cells.size) (h1:cells.all (·.oneCell')=true)
 (h:wpListIn F n P ops Q rest (a.put o.dst undef) (w.setRow g cells)):wpListIn F n P ops Q (o::rest) a w:=by
 refine wpListIn_plain hgd fun K hK=>⟨fun f hf=>(by simp[Oper.about,ho] at hf),?_⟩
 rw[Oper.semAt_plain F _ _ (by rw[ho];intro c hc;cases hc)]
 unfold execOp;simp only[ho,hx,hy,Instr.storeAt,Instr.sureAddr,Sem.run_bind,Sem.run_pure,Result.andThen_ok,run_storeVar_row w g t ty old cells hr hi hold h1];exact hK _ _ h
theorem whl_er {d:List B}:∀(k p:Nat) (last:Int) (c:Nat) {q:Nat} {e:Int},(whl d k p last c).2=some (q,e)→e≠0
 |0,_,_,_,_,_,h=>by simp[whl] at h
 |k+1,p,last,c,q,e,h=>by
  by_cases hlt:p<d.length
  ·rw[whl,if_pos hlt] at h
   cases hr:rh (d.drop p) last c with
   |er e'=>
    rw[hr] at h
    simp at h
    rw[←h.2];exact rh_er hr
   |ok no ty n=>
    rw[hr] at h;simp only at h
    cases hv:rv (d.drop (p+n)) ty with
    |er e'=>
     rw[hv] at h
     simp at h
     rw[←h.2];exact rv_er hv
    |ok num dat m=>
     rw[hv] at h;exact whl_er k _ _ _ h
  ·rw[whl,if_neg hlt] at h
   simp at h
def dwh (d:List B):List (Nat×Fd)×Option (Nat×Int):=if 4194304<d.length then([],some (0,2)) else whl d d.length 0 0 0
def dfs (x:List (Nat×Fd)×Option (Nat×Int)):List Fd:=match x.2 with
 |none=>x.1.map (·.2)
 |some _=>[]
def dpl (x:List (Nat×Fd)×Option (Nat×Int)):Int:=match x.2 with
 |none=>0
 |some (p,_)=>(p:Int)
def der (x:List (Nat×Fd)×Option (Nat×Int)):Int:=match x.2 with
 |none=>0
 |some (_,e)=>e
theorem Fts.down {W:World} {b c:Nat} {v:Value} {us:List Value} {fs:List Fd} (h:Fts W b v us fs) (hc:c≤b):Fts W c v us fs:=by
 obtain⟨h1,h2,h3,h4⟩:=h
 refine⟨?_,h2,fun i hi=>own_down (h3 i hi) hc,h4⟩
 obtain⟨q1,q2|⟨g,cap,cur,q2,hb,q3⟩⟩:=h1
 ·exact⟨q1,.inl q2⟩
 ·exact⟨q1,.inr ⟨g,cap,cur,q2,by omega,q3⟩⟩
theorem Own.move {W V:World} {b:Nat} {v:Value} {d:List B} (h:Own W b v d) (hm:∀g o,b≤g→W.heap[g]? =some o→V.heap[g]? =some o):Own V b v d:=by
 obtain⟨q1,q2|⟨g,cap,cur,q2,hb,q3,q4⟩⟩:=h
 ·exact⟨q1,.inl q2⟩
 ·exact⟨q1,.inr ⟨g,cap,cur,q2,hb,hm _ _ hb q3,q4⟩⟩
theorem Fts.move {W V:World} {b:Nat} {v:Value} {us:List Value} {fs:List Fd} (h:Fts W b v us fs) (hm:∀g o,b≤g→W.heap[g]? =some o→V.heap[g]? =some o):Fts V b v us fs:=by
 obtain⟨h1,h2,h3,h4⟩:=h
 refine⟨?_,h2,fun i hi=>(h3 i hi).move hm,h4⟩
 obtain⟨q1,q2|⟨g,cap,cur,q2,hb,q3,q4⟩⟩:=h1
 ·exact⟨q1,.inl q2⟩
 ·exact⟨q1,.inr ⟨g,cap,cur,q2,hb,hm _ _ hb q3,q4⟩⟩
theorem results_tmp3b {fn:Func} {t u v:Tmp} (h:fn.results=#[.tmp t,.tmp u,.tmp v]) (tmps:Array Value) (P:Program) (w:World):(results fn tmps).run P w=.ok (.tuple #[tmps.getD t undef,tmps.getD u undef,tmps.getD v undef]) w:=by
 simp[results,h]
def DecJ (w:World) (v:Value) (r:Loop) (pre:List (Nat×Fd)) (A:World):Prop:=
 A.heap[w.heap.size+3]? =some (.loop r)∧A.heap[w.heap.size+2]? =some (.deferred (some []))∧A.heap[w.heap.size+1]? =some (.cells (wkr v) 165 (0,0))∧
 (∃u us,A.heap[w.heap.size]? =some (.cells #[u] 116 (0,0))∧Fts A (w.heap.size+4) u us (pre.map (·.2)))∧Below w.heap.size w A
theorem DecJ.keep {w A C:World} {v:Value} {r:Loop} {pre:List (Nat×Fd)} (h:DecJ w v r pre A) (hb:Below A.heap.size A C):DecJ w v r pre C:=by
 obtain⟨h1,h2,h3,⟨u,us,h4,h5⟩,h6⟩:=h;exact⟨Go.Proofs.YtmmlkfkpblokiaaGreatDoor.keep hb h1,Go.Proofs.YtmmlkfkpblokiaaGreatDoor.keep hb h2,Go.Proofs.YtmmlkfkpblokiaaGreatDoor.keep hb h3,⟨u,us,Go.Proofs.YtmmlkfkpblokiaaGreatDoor.keep hb h4,h5.keep hb⟩,Below.after h6 hb⟩
set_option maxRecDepth 100000 in
set_option maxHeartbeats 4000000 in
theorem a_decode (d:List B) (w:World) (v:Value) (hB:BysB w v d) (hcap:∀a l c,v=.slice a l c→l≤c):Calls Tryz.prog 57 #[v] w fun e w'=>∃u us,e=.returned (.tuple #[u,.int .i64 (dpl (dwh d)),.int .i64 (der (dwh d))])∧Fts w' w.heap.size u us (dfs (dwh d))∧Below w.heap.size w w':=by
 have hdl:=hB.2.1;obtain⟨ao,cap,rfl⟩:=hB.form;refine(callsIn_wide (n:=4)).1 (callsIn_of_wp_marks Tryz.func57 rfl trivial ?_);refine wpIn_wide.2 ?_;simp only[Tryz.ntmps57,List.size_toArray,List.length_cons,List.length_nil,Nat.reduceAdd,Nat.reduceSub,Array.replicate_succ,Array.replicate_zero,List.push_toArray,List.append_toArray,List.nil_append,List.cons_append]
 by_cases h1:4194304<d.length
 ·have hdw:dwh d=([],some (0,2)):=if_pos h1
  have d1:decide ((d.length:Int)>4194304)=true:=by simp;omega
  rw[hdw];simp only[dpl,der,dfs];clear hdw
  go_wp2_with (fail)
  exact⟨_,results_tmp3b rfl _ _ _,_,[],rfl,fts_nil _ _,Below.refl _ _⟩
 ·have hdw:dwh d=whl d d.length 0 0 0:=if_neg h1
  have d1:decide ((d.length:Int)>4194304)=false:=by simp;omega
  rw[hdw];clear hdw
  go_wp2_with (fail)
  have z0:=hp2_0 w (.cells #[.slice none 0 0] 116) (.cells #[.slice ao d.length cap,.int .i64 0,.int .i64 0] 165);have z1:=hp2_1 w (.cells #[.slice none 0 0] 116) (.cells #[.slice ao d.length cap,.int .i64 0,.int .i64 0] 165)
  have hw0:Below w.heap.size w ((w.alloc (.cells #[.slice none 0 0] 116)).alloc (.cells #[.slice ao d.length cap,.int .i64 0,.int .i64 0] 165)):=((Below.refl _ _).alloc (Nat.le_refl _) _).alloc (by simp) _
  have hsz:((w.alloc (.cells #[.slice none 0 0] 116)).alloc (.cells #[.slice ao d.length cap,.int .i64 0,.int .i64 0] 165)).heap.size=w.heap.size+2:=by simp
  generalize (w.alloc (.cells #[.slice none 0 0] 116)).alloc (.cells #[.slice ao d.length cap,.int .i64 0,.int .i64 0] 165)=W0 at *
  refine wp_range_bound (gf:=83) rfl (enters_of Tryz.func83 (by kernel_rfl) rfl) ?_
  intro fn rec hrec
  rw[hsz] at hrec⊢
  have y0:=hp2_0 W0 (.deferred (some [])) (.loop (rec .ready none));have y1:=hp2_1 W0 (.deferred (some [])) (.loop (rec .ready none))
  have hb0:Below W0.heap.size W0 ((W0.alloc (.deferred (some []))).alloc (.loop (rec .ready none))):=((Below.refl _ _).alloc (Nat.le_refl _) _).alloc (by simp) _
  rw[hsz] at y0 y1;have h0:DecJ w (.slice ao d.length cap) (rec .ready none) [] ((W0.alloc (.deferred (some []))).alloc (.loop (rec .ready none))):=⟨y1,y0,keep hb0 z1,⟨_,[],keep hb0 z0,fts_nil _ _⟩,Below.after hw0 hb0⟩
  generalize (W0.alloc (.deferred (some []))).alloc (.loop (rec .ready none))=W1 at *
  clear y0 y1 hb0 z0 z1 hw0
  refine(a_fields d (.slice ao d.length cap) (w.heap.size+1) (w.heap.size+2+1) (DecJ w (.slice ao d.length cap) (rec .ready none)) (fun _ _=>False) hcap (fun pre A C hA hb=>hA.keep hb) (fun pre A hA=>⟨hA.2.2.1,hB.keep hA.2.2.2.2⟩) ?_ W1 h0 (by omega)).mono ?_
  ·clear h0
   rintro pre x u A C hA hb hO hlx hFk hpl
   obtain⟨uo,uc,rfl⟩:=slen_own hO;have hAs:w.heap.size+3<A.heap.size:=lt_of_row hA.1;obtain⟨a1,a2,a3,⟨v0,us,a4,a5⟩,a6⟩:=hA;have ahi:=a5.high;have g1:=keep hb a1
   have hy:=run_yield (P:=Tryz.prog) (args:=#[.int .i64 (x.1:Int),.agg #[.int .i64 x.2.no,.int .i64 x.2.ty,.int .u64 (x.2.num:Int),.slice uo x.2.dat.length uc]]) g1 (by rw[hrec];rfl)
   rw[hrec] at hy;refine⟨fn,_,_,_,hy,roundIn_of_wpIn trivial ?_⟩;have r0:=hp1_0 C (.cells #[.int .i64 0,.int .i64 0,.int .u64 0,.slice none 0 0] 118)
   have hone:(#[.int .i64 x.2.no,.int .i64 x.2.ty,.int .u64 (x.2.num:Int),.slice uo x.2.dat.length uc]:Array Value).all (·.oneCell')=true:=by simp[Value.oneCell']
   have hbx:Below C.heap.size C ((C.alloc (.cells #[.int .i64 0,.int .i64 0,.int .u64 0,.slice none 0 0] 118)).setRow C.heap.size #[.int .i64 x.2.no,.int .i64 x.2.ty,.int .u64 (x.2.num:Int),.slice uo x.2.dat.length uc]):=below_setRow ((Below.refl _ _).alloc (Nat.le_refl _) _) (Nat.le_refl _) _;have rB:=setRow_heap _ C.heap.size _ #[.int .i64 x.2.no,.int .i64 x.2.ty,.int .u64 (x.2.num:Int),.slice uo x.2.dat.length uc] _ _ r0;clear hy
   gi_wp2_with (first|(refine wpListIn_alloc rfl 118 rfl #[.int .i64 0,.int .i64 0,.int .u64 0,.slice none 0 0] zFd ?_)|(refine wpListIn_store_row rfl 118 _ _ rfl C.heap.size #[.int .i64 x.2.no,.int .i64 x.2.ty,.int .u64 (x.2.num:Int),.slice uo x.2.dat.length uc] rfl rfl 118 _ r0 infoF rfl hone ?_)|fail)
   have hsC:C.heap.size<((C.alloc (.cells #[.int .i64 0,.int .i64 0,.int .u64 0,.slice none 0 0] 118)).setRow C.heap.size #[.int .i64 x.2.no,.int .i64 x.2.ty,.int .u64 (x.2.num:Int),.slice uo x.2.dat.length uc]).heap.size:=lt_of_row rB
   generalize (C.alloc (.cells #[.int .i64 0,.int .i64 0,.int .u64 0,.slice none 0 0] 118)).setRow C.heap.size #[.int .i64 x.2.no,.int .i64 x.2.ty,.int .u64 (x.2.num:Int),.slice uo x.2.dat.length uc]=C1 at *
   clear r0 hone;have hbA:=Below.after hb hbx;have e1:=keep hbA a1
   refine⟨_,run_beginRound e1 (by rw[hrec]),?_⟩
   have hsA:=hb.size
   have hoth:∀g,g≠w.heap.size+3→(C1.putObj (w.heap.size+3) (.loop {rec .ready none with state:=.busy})).heap[g]? =C1.heap[g]? :=fun g hg=>World.putObj_heap_other hg
   have e1':(C1.putObj (w.heap.size+3) (.loop {rec .ready none with state:=.busy})).heap[w.heap.size+3]? =some (.loop {rec .ready none with state:=.busy}):=World.putObj_heap_same (lt_of_row e1)
   have e2:=(hoth (w.heap.size+2) (by omega)).trans (keep hbA a2)
   have e3:=(hoth (w.heap.size+1) (by omega)).trans (keep hbA a3)
   have e4:=(hoth w.heap.size (by omega)).trans (keep hbA a4)
   have e5:Fts (C1.putObj (w.heap.size+3) (.loop {rec .ready none with state:=.busy})) (w.heap.size+4) v0 us (pre.map (·.2)):=(a5.keep hbA).move (fun g o hg h=>(hoth g (by omega)).trans h)
   have rB2:=(hoth C.heap.size (by omega)).trans rB
   have hO2:Own (C1.putObj (w.heap.size+3) (.loop {rec .ready none with state:=.busy})) A.heap.size (.slice uo x.2.dat.length uc) x.2.dat:=(hO.keep hbx).move (fun g o hg h=>(hoth g (by omega)).trans h)
   have e6:Below w.heap.size w (C1.putObj (w.heap.size+3) (.loop {rec .ready none with state:=.busy})):=(Below.after a6 hbA).grown (grownBy_putObj' _ _ _) (by have:=a6.size;have:=hbA.size;omega) (fun k e=>by cases e;omega)
   have hszC:(C1.putObj (w.heap.size+3) (.loop {rec .ready none with state:=.busy})).heap.size=C1.heap.size:=World.putObj_size
   have hfr:Hid (∀g,A.heap.size≤g→g<C.heap.size→(C1.putObj (w.heap.size+3) (.loop {rec .ready none with state:=.busy})).heap[g]? =C.heap[g]?):=hide (fun g hg1 hg2=>(hoth g (by omega)).trans (hbx.block g hg2))
   generalize C1.putObj (w.heap.size+3) (.loop {rec .ready none with state:=.busy})=C2 at *
   clear hoth rB hbx hbA e1 a1 a2 a3 a4 a5 a6 g1 hO hb;rw[←hszC] at hsC;clear hszC
   have hfs2:Hid ((pre++[x]).map (·.2)=pre.map (·.2)++[x.2]):=hide (by simp)
   have hfl:(pre.map (·.2)).length<64:=by rw[List.length_map];exact hpl
   generalize pre.map (·.2)=fs at *
   obtain⟨so,sc,rfl⟩:=slen_own e5.1
   have c5:C2.cell? ⟨w.heap.size,0,none⟩=some (.slice so fs.length sc):=by rw[cell_of_row _ _ 0 _ _ _ e4];rfl
   gi_wp2_with (first|(refine wpListIn_load_want rfl 118 _ rfl C.heap.size rfl 118 _ (0,0) _ rB2 Tryz.underlying118 rfl infoF ?_)|(gi_at_builtin;suffices h9:True∧_ from h9.2)|fail)
   refine⟨trivial,?_⟩;have hbn:Below C2.heap.size C2 (C2.alloc (.cells #[.int .i64 x.2.no,.int .i64 x.2.ty,.int .u64 (x.2.num:Int),.slice uo x.2.dat.length uc] 118)):=(Below.refl _ _).alloc (Nat.le_refl _) _;have e5n:=e5.keep hbn;have hown:=own_high_row e5.1
   refine wpListIn_append_F rfl (.tmp 17) (.tmp 19) rfl (w.heap.size+4) _ us fs rfl A.heap.size e5n ahi.1 ahi.2 (by omega) _ x.2 (hO2.keep hbn) C2.heap.size rfl (new_cells4 C2 #[.int .i64 x.2.no,.int .i64 x.2.ty,.int .u64 (x.2.num:Int),.slice uo x.2.dat.length uc] 118) (by omega) (by rw[size_alloc1];omega) ?_
   intro v4 w4 hI4 hgr hnx
   have hgk:∀k,(Value.slice so fs.length sc).ownBlock=some k→w.heap.size+4≤k∧k<A.heap.size:=fun k e=>⟨(hown k e).1,ahi.1 k e⟩
   have hoth:∀g,g<C2.heap.size→(g<w.heap.size+4∨A.heap.size≤g)→w4.heap[g]? =C2.heap[g]? :=fun g hg hh=>(hgr.block g (by rw[size_alloc1];omega) (fun e=>by have:=hgk g e.symm;omega)).trans (hbn.block g hg)
   have hw4:Below w.heap.size w w4:=(Below.after e6 hbn).grown hgr (by rw[size_alloc1];have:=e6.size;omega) (fun k e=>by have:=hgk k e;omega)
   have q1:=(hoth (w.heap.size+3) (by omega) (by omega)).trans e1'
   have q2:=(hoth (w.heap.size+2) (by omega) (by omega)).trans e2
   have q3:=(hoth (w.heap.size+1) (by omega) (by omega)).trans e3
   have q4:=(hoth w.heap.size (by omega) (by omega)).trans e4
   have hfr2:Hid (∀g,A.heap.size≤g→g<C.heap.size→w4.heap[g]? =C.heap[g]?):=hide (fun g hg1 hg2=>(hoth g (by omega) (.inr hg1)).trans (hfr.out g hg1 hg2))
   clear hoth hfr e1' e2 e3 e4 e5 e5n e6 hbn hO2 rB2 c5 hgr hnx hown hgk;obtain⟨ao4,ac4,hv4⟩:=slen_own hI4.1
   have c6:w4.cell? ⟨w.heap.size,0,none⟩=some (.slice so fs.length sc):=by rw[cell_of_row _ _ 0 _ _ _ q4];rfl
   have f6:w4.frozen? ⟨w.heap.size,0,none⟩=false:=by simp[World.frozen?,q4]
   generalize (fs++[x.2]).length=fl at hv4;subst hv4
   gi_wp2_with (fail)
   have p1:=heap_other (g:=w.heap.size) (j:=0) (v:=.slice ao4 fl ac4) q1 (by omega)
   have p2:=heap_other (g:=w.heap.size) (j:=0) (v:=.slice ao4 fl ac4) q2 (by omega)
   have p3:=heap_other (g:=w.heap.size) (j:=0) (v:=.slice ao4 fl ac4) q3 (by omega)
   have p4:=row_set q4 0 (.slice ao4 fl ac4)
   have p5:Fts (w4.setCell ⟨w.heap.size,0,none⟩ (.slice ao4 fl ac4)) (w.heap.size+4) (.slice ao4 fl ac4) (us++[.slice uo x.2.dat.length uc]) (fs++[x.2]):=hI4.move (fun g o hg h=>heap_other h (by omega))
   have p6:=hw4.setCell (p:=⟨w.heap.size,0,none⟩) (Nat.le_refl _) (.slice ao4 fl ac4)
   have p7:∀g,A.heap.size≤g→g<C.heap.size→(w4.setCell ⟨w.heap.size,0,none⟩ (.slice ao4 fl ac4)).heap[g]? =C.heap[g]? :=fun g hg1 hg2=>(heap_setCell_other w4 ⟨w.heap.size,0,none⟩ g _ (by show g≠w.heap.size;omega)).trans (hfr2.out g hg1 hg2)
   generalize w4.setCell ⟨w.heap.size,0,none⟩ (.slice ao4 fl ac4)=w5 at *
   refine⟨_,_,run_endRound none p1,.inl ⟨rfl,⟨?_,?_,?_,⟨.slice ao4 fl ac4,us++[.slice uo x.2.dat.length uc],?_,?_⟩,?_⟩,?_⟩⟩
   ·rw[World.putObj_heap_same (lt_of_row p1)];simp[hrec]
   ·exact(World.putObj_heap_other (by omega)).trans p2
   ·exact(World.putObj_heap_other (by omega)).trans p3
   ·exact(World.putObj_heap_other (by omega)).trans p4
   ·rw[hfs2.out];exact p5.move (fun g o hg h=>(World.putObj_heap_other (by omega)).trans h)
   ·exact p6.grown (grownBy_putObj' _ _ _) p6.size (fun k e=>by cases e;omega)
   ·exact fun g hg1 hg2=>(World.putObj_heap_other (by omega)).trans (p7 g hg1 hg2)
  ·clear h0
   rintro e w2 ⟨⟨r,rfl⟩,(⟨hn,hJ⟩|⟨p,e0,W,hs,hJ,rfl⟩|⟨_,_,hF⟩)⟩
   ·refine⟨⟨_,rfl⟩,hJ.1,?_⟩
    obtain⟨j1,j2,j3,⟨u,us,j4,j5⟩,j6⟩:=hJ
    have hoth:∀g,g≠w.heap.size+3→(w2.putObj (w.heap.size+2+1) (.loop (rec .exhausted none))).heap[g]? =w2.heap[g]? :=fun g hg=>World.putObj_heap_other hg
    have k2:=(hoth (w.heap.size+2) (by omega)).trans j2
    have k3:=(hoth (w.heap.size+1) (by omega)).trans j3
    have k4:=(hoth w.heap.size (by omega)).trans j4
    have k5:Fts (w2.putObj (w.heap.size+2+1) (.loop (rec .exhausted none))) (w.heap.size+4) u us _:=j5.move (fun g o hg h=>(hoth g (by omega)).trans h)
    have k6:=j6.grown (grownBy_putObj' w2 (w.heap.size+2+1) (.loop (rec .exhausted none))) j6.size (fun k e=>by cases e;omega)
    clear hoth j1 j2 j3 j4 j5 j6
    generalize w2.putObj (w.heap.size+2+1) (.loop (rec .exhausted none))=w3 at *
    obtain⟨so,sc,rfl⟩:=slen_own k5.1
    generalize hfl:(List.map (·.2) (whl d d.length 0 0 0).1).length=fl at *
    replace hfl:=hide hfl
    have c2:w3.cell? ⟨w.heap.size+1,2,none⟩=some (.int .i64 0):=by rw[cell_of_row _ _ 2 _ _ _ k3];rfl
    have c4:w3.cell? ⟨w.heap.size,0,none⟩=some (.slice so fl sc):=by rw[cell_of_row _ _ 0 _ _ _ k4];rfl
    go_wp2_with (fail)
    refine⟨by simp,.inl ⟨_,_,rfl,run_takeDeferred k2,?_⟩⟩
    refine⟨_,results_tmp3b rfl _ _ _,.slice so fl sc,?_,⟨us,?_⟩,?_⟩
    ·simp[dpl,der,hn]
    ·have hdf:dfs (whl d d.length 0 0 0)=(whl d d.length 0 0 0).1.map (·.2):=by simp[dfs,hn]
     rw[hdf]
     exact(k5.move (fun g o hg h=>(World.putObj_heap_other (by omega)).trans h)).down (by omega)
    ·exact k6.grown (grownBy_putObj' _ _ _) k6.size (fun k e=>by cases e;omega)
   ·refine⟨⟨_,rfl⟩,?_,?_⟩
    ·exact heap_other (heap_other hJ.1 (by omega)) (by omega)
    obtain⟨j1,j2,j3,⟨u,us,j4,j5⟩,j6⟩:=hJ
    have he:(e0==0)=false:=by simpa using whl_er _ _ _ _ hs
    have hoth:∀g,g≠w.heap.size+3→(((W.setCell ⟨w.heap.size+1,1,none⟩ (.int .i64 (p:Int))).setCell ⟨w.heap.size+1,2,none⟩ (.int .i64 e0)).putObj (w.heap.size+2+1) (.loop (rec .exhausted none))).heap[g]? =((W.setCell ⟨w.heap.size+1,1,none⟩ (.int .i64 (p:Int))).setCell ⟨w.heap.size+1,2,none⟩ (.int .i64 e0)).heap[g]? :=fun g hg=>World.putObj_heap_other hg
    have k2:=(hoth (w.heap.size+2) (by omega)).trans (heap_other (heap_other j2 (by omega)) (by omega))
    have k3:=(hoth (w.heap.size+1) (by omega)).trans (row_set (row_set j3 1 (.int .i64 (p:Int))) 2 (.int .i64 e0))
    have k6:=((j6.setCell (p:=⟨w.heap.size+1,1,none⟩) (Nat.le_succ _) (.int .i64 (p:Int))).setCell (p:=⟨w.heap.size+1,2,none⟩) (Nat.le_succ _) (.int .i64 e0))
    replace k6:=k6.grown (grownBy_putObj' _ (w.heap.size+2+1) (.loop (rec .exhausted none))) k6.size (fun k e=>by cases e;omega)
    clear hoth j1 j2 j3 j4 j5 j6
    generalize ((W.setCell ⟨w.heap.size+1,1,none⟩ (.int .i64 (p:Int))).setCell ⟨w.heap.size+1,2,none⟩ (.int .i64 e0)).putObj (w.heap.size+2+1) (.loop (rec .exhausted none))=w3 at *
    have c1:w3.cell? ⟨w.heap.size+1,1,none⟩=some (.int .i64 (p:Int)):=by rw[cell_of_row _ _ 1 _ _ _ k3];rfl
    have c2:w3.cell? ⟨w.heap.size+1,2,none⟩=some (.int .i64 e0):=by rw[cell_of_row _ _ 2 _ _ _ k3];rfl
    go_wp2_with (fail)
    have hbd:Below w3.heap.size w3 w3.drew:=below_drN (Below.refl _ _) 1
    have hS:w3.drew.cell? ⟨w.heap.size+1,1,none⟩=some (.int .i64 (p:Int))∧w3.drew.cell? ⟨w.heap.size+1,2,none⟩=some (.int .i64 e0):=⟨by rw[cell_of_row _ _ 1 _ _ _ (keep hbd k3)];rfl,by rw[cell_of_row _ _ 2 _ _ _ (keep hbd k3)];rfl⟩
    replace k2:=keep hbd k2;replace k6:=Below.after k6 hbd;clear hbd k3 c1 c2;refine wp_region_noPanic ?_
    refine wp_region_held (S:=fun W=>W.cell? ⟨w.heap.size+1,1,none⟩=some (.int .i64 (p:Int))∧W.cell? ⟨w.heap.size+1,2,none⟩=some (.int .i64 e0)) (by kernel_rfl) ?_
    change wpAnyH _ _ _ _ _ _ _ _ (World.drew _)
    generalize w3.drew=w4 at *
    refine wpAnyH_take (i:=0) (v:=?v1) rfl (by kernel_rfl) (by kernel_rfl) (by kernel_rfl) (fun _ _ _ h=>h) (Or.inl ⟨by rfl,?y1⟩) hS ?r1
    case y1=>
     intro w_ hS_;go_simp
     try with_reducible rfl
    simp only[Act.put,List.getElem_toArray,List.getElem_cons_zero,List.setIfInBounds_toArray,List.set_cons_succ,List.set_cons_zero]
    refine wpAnyH_take (i:=1) (v:=.int .i64 (p:Int)) rfl (by kernel_rfl) (by kernel_rfl) (by kernel_rfl) (fun _ _ _ h=>h) (Or.inl ⟨by rfl,?y2⟩) hS ?r2
    case y2=>
     intro w_ hS_;have c_:=hS_.1;go_simp
     try with_reducible rfl
    simp only[Act.put,List.getElem_toArray,List.getElem_cons_succ,List.getElem_cons_zero,List.setIfInBounds_toArray,List.set_cons_succ,List.set_cons_zero]
    refine wpAnyH_take (i:=2) (v:=?v3) rfl (by kernel_rfl) (by kernel_rfl) (by kernel_rfl) (fun _ _ _ h=>h) (Or.inl ⟨by rfl,?y3⟩) hS ?r3
    case y3=>
     intro w_ hS_;go_simp
     try with_reducible rfl
    simp only[Act.put,List.getElem_toArray,List.getElem_cons_succ,List.getElem_cons_zero,List.setIfInBounds_toArray,List.set_cons_succ,List.set_cons_zero]
    refine wpAnyH_take (i:=3) (v:=.int .i64 e0) rfl (by kernel_rfl) (by kernel_rfl) (by kernel_rfl) (fun _ _ _ h=>h) (Or.inl ⟨by rfl,?y4⟩) hS ?r4
    case y4=>
     intro w_ hS_;have c_:=hS_.2;go_simp
     try with_reducible rfl
    simp only[Act.put,List.getElem_toArray,List.getElem_cons_succ,List.getElem_cons_zero,List.setIfInBounds_toArray,List.set_cons_succ,List.set_cons_zero]
    refine wpAnyH_take (i:=4) (v:=?v5) rfl (by kernel_rfl) (by kernel_rfl) (by kernel_rfl) (fun _ _ _ h=>h) (Or.inl ⟨by rfl,?y5⟩) hS ?r5
    case y5=>
     intro w_ hS_;go_simp
     try with_reducible rfl
    simp only[Act.put,List.getElem_toArray,List.getElem_cons_succ,List.getElem_cons_zero,List.setIfInBounds_toArray,List.set_cons_succ,List.set_cons_zero]
    refine wpAnyH_take (i:=5) (v:=?v6) rfl (by kernel_rfl) (by kernel_rfl) (by kernel_rfl) (fun _ _ _ h=>h) (Or.inl ⟨by rfl,?y6⟩) hS ?r6
    case y6=>
     intro w_ hS_;go_simp
     try with_reducible rfl
    simp only[Act.put,List.getElem_toArray,List.getElem_cons_succ,List.getElem_cons_zero,List.setIfInBounds_toArray,List.set_cons_succ,List.set_cons_zero]
    refine wpAnyH_take (i:=6) (v:=?v7) rfl (by kernel_rfl) (by kernel_rfl) (by kernel_rfl) (fun _ _ _ h=>h) (Or.inl ⟨by rfl,?y7⟩) hS ?r7
    case y7=>
     intro w_ hS_;go_simp
     try with_reducible rfl
    simp only[Act.put,List.getElem_toArray,List.getElem_cons_succ,List.getElem_cons_zero,List.setIfInBounds_toArray,List.set_cons_succ,List.set_cons_zero]
    refine wpAnyH_done (by kernel_rfl) ?_ _
    refine NoPanic.normal ?_
    go_wp2_with (fail)
    refine⟨by simp,.inl ⟨_,_,rfl,run_takeDeferred k2,?_⟩⟩
    refine⟨_,results_tmp3b rfl _ _ _,.slice none 0 0,[],?_,?_,?_⟩
    ·simp[dpl,der,hs]
    ·have hdf:dfs (whl d d.length 0 0 0)=[]:=by simp[dfs,hs]
     rw[hdf]
     exact fts_nil _ _
    ·exact k6.grown (grownBy_putObj' _ _ _) k6.size (fun k e=>by cases e;omega)
   ·exact hF.elim
end Go.Proofs.YtmmlkfkpblokiaaGreatDoor
namespace Go.Proofs.YtmmlkfkpblokiaaGreatDoor
set_option maxRecDepth 100000
open Go Go.RowKit Go.Sort
attribute [local go_sem] setCell_drewN alloc_drewN
theorem after_nil (r:RS):r.after []=r:=by
 cases r<;>rfl
set_option maxRecDepth 100000 in
set_option maxHeartbeats 4000000 in
theorem a_split (d:List B) (w:World) (v:Value) (hB:BysB w v d) (hcap:∀a l c,v=.slice a l c→l≤c):Calls Tryz.prog 132 #[v] w fun e w'=>∃u us,e=.returned (.tuple #[u,.int .i64 (spa (sp d)),.int .i64 (spe (sp d))])∧Its w' w.heap.size u us (spp (sp d))∧Below w.heap.size w w':=by
 have hlen:=hB.2.1;obtain⟨ao,cap,rfl⟩:=hB.form
 by_cases h1:4194304<d.length
 ·have hsp:sp d=.er 2 0:=if_pos h1
  have d1:decide ((d.length:Int)>4194304)=true:=by simp;omega
  rw[hsp];simp only[spa,spe,spp]
  go_enter Tryz.func132,Tryz.ntmps132
  go_wp2_with (fail)
  go_ret3
  exact⟨_,[],rfl,its_nil _ _,Below.refl _ _⟩
 ·have hsp:sp d=spl d.length 0 0 d:=if_neg h1
  have d1:decide ((d.length:Int)>4194304)=false:=by simp;omega
  go_enter Tryz.func132,Tryz.ntmps132
  go_wp2_with (fail)
  go_loopw [5,6] (fun s i wr=>∃(q:Nat) (us:List Value) (ps:List (List B)) (so:Option Addr) (sc:Nat),q≤d.length∧i=.int .i64 (q:Int)∧s=.slice so ps.length sc∧ps.length≤4096∧Its wr w.heap.size (.slice so ps.length sc) us ps∧sp d=(spl (d.drop q).length q ps.length (d.drop q)).after ps∧Below w.heap.size w wr) (fun _ i _=>d.length-(intOf i).toNat)
  case atStart=>exact⟨0,[],[],_,_,by omega,rfl,rfl,by simp,its_nil _ _,by rw[hsp];exact(after_nil _).symm,Below.refl _ _⟩
  case round=>
   skip
   clear hsp;obtain⟨q,us,ps,so,sc,hq,rfl,rfl,hps,hI,hsp,hw⟩:=hrel;have hws:=hw.size
   by_cases hlt:q<d.length
   ·have hd:decide ((q:Int)<(d.length:Int))=true:=by simp;omega
    have hne:d.drop q≠[]:=by intro e;have:=congrArg List.length e;rw[List.length_drop] at this;simp at this;omega
    by_cases hc:ps.length=4096
    ·rw[hc,spl_full hne] at hsp
     have hfin:Hid (sp d=.er 2 q):=hide hsp
     have d3:((ps.length:Int)==4096)=true:=by simp;omega
     clear hsp;replace hc:=hide hc
     generalize ps.length=pl at *
     go_wp2_with (fail)
     go_ret3
     rw[hfin.out];exact⟨_,[],rfl,its_nil _ _,hw⟩
    ·have d3:((ps.length:Int)==4096)=false:=by simp;omega
     have cR:=a_readItem d q hq wr _ (hB.keep hw) hcap
     cases hr:ri (d.drop q) with
     |er e=>
      rw[spl_er hne hc hr] at hsp;have hfin:Hid (sp d=.er e q):=hide hsp;rw[hr] at cR;simp only[rie,rir,rip] at cR
      have he:(e==0)=false:=by rcases ri_er hr with h|h<;>subst h<;>rfl
      clear hsp hr
      generalize ps.length=pl at *
      go_wp2_with (fail)
      refine cR.mono ?_;rintro e_ w1 ⟨u,rfl,hO,hb⟩;replace hw:=Below.after hw hb;clear cR hb
      go_wp2_with (fail)
      go_ret3
      rw[hfin.out];exact⟨_,[],rfl,its_nil _ _,hw⟩
     |ok x n=>
      rw[spl_step hne hc hr,after_cons,List.drop_drop] at hsp;have hro:=ri_ok hr;rw[List.length_drop] at hro
      have hxl:x.length≤d.length:=by omega
      rw[hr] at cR;simp only[rie,rir,rip] at cR
      have hnext:Hid (sp d=(spl (d.drop (q+n)).length (q+n) (ps++[x]).length (d.drop (q+n))).after (ps++[x])):=hide (by rw[hsp,List.length_append,List.length_singleton])
      have hqn:q+n≤d.length:=by omega
      have hn0:0<n:=hro.1;clear hsp hr hro hne
      generalize hpl:ps.length=pl at *
      go_wp2_with (fail)
      refine cR.mono ?_;rintro e_ w1 ⟨u,rfl,hO,hb⟩;have hI1:=hI.keep hb;have hhi:=hI.high;replace hw:=Below.after hw hb;have hs1:=hb.size;clear cR hb;obtain⟨uo,uc,hu⟩:=slen_own hO;have hba:Below w1.heap.size w1 (w1.alloc (.cells #[u] 24)):=(Below.refl _ _).alloc (Nat.le_refl _) _;have hI2:=hI1.keep hba;have hO2:=own_alloc hO (.cells #[u] 24);subst hu
      go_wp2_with (first|(at_builtin;refine wpList_append_I rfl (.tmp 32) (.tmp 34) rfl w.heap.size _ us ps rfl wr.heap.size hI2 hhi.1 hhi.2 hws _ x hO2 w1.heap.size rfl (new_cell1 w1 _ _) (by omega) (by rw[size_alloc1];omega) ?_)|fail)
      intro v4 w4 hI4 hgr
      have hw4:=(hw.alloc hw.size (.cells #[Value.slice uo x.length uc] 24)).grown hgr (by rw[size_alloc1];omega) (fun k e=>(own_high_row hI.1 k e).1)
      obtain⟨ao4,ac4,hv4⟩:=slen_own hI4.1;have hlen4:(us++[Value.slice uo x.length uc]).length=(ps++[x]).length:=hI4.2.1;rw[hlen4] at hv4
      have hps2:(ps++[x]).length≤4096:=by rw[List.length_append,List.length_singleton];omega
      generalize ps++[x]=ps2 at *
      subst hv4;clear hI hI1 hI2 hO hO2 hgr
      go_wp2_with (fail)
      refine⟨⟨q+n,_,ps2,ao4,ac4,hqn,rfl,rfl,hps2,hI4,hnext.out,hw4⟩,?_⟩
      simp[intOf];omega
   ·obtain rfl:q=d.length:=by omega
    have hd:decide ((d.length:Int)<(d.length:Int))=false:=by simp
    rw[List.drop_length,List.length_nil,spl,RS.after,List.append_nil] at hsp;have hfin:Hid (sp d=.ok ps):=hide hsp;clear hsp
    generalize hpl:ps.length=pl at *
    go_wp2_with (fail)
    go_ret3
    rw[hfin.out];exact⟨_,us,rfl,hI,hw⟩
set_option maxRecDepth 100000 in
set_option maxHeartbeats 4000000 in
theorem r_split (d:List B) (w:World) (v:Value) (hB:BysB w v d) (hcap:∀a l c,v=.slice a l c→l≤c):Calls Tryz.prog 86 #[v] w fun e w'=>∃u us,e=.returned (.tuple #[u,.int .i64 (spa (sp d)),.int .i64 (spe (sp d))])∧Its w' w.heap.size u us (spp (sp d))∧Below w.heap.size w w':=by
 have hlen:=hB.2.1;obtain⟨ao,cap,rfl⟩:=hB.form
 by_cases h1:4194304<d.length
 ·have hsp:sp d=.er 2 0:=if_pos h1
  have d1:decide ((d.length:Int)>4194304)=true:=by simp;omega
  rw[hsp];simp only[spa,spe,spp]
  go_enter Tryz.func86,Tryz.ntmps86
  go_wp2_with (fail)
  go_ret3
  exact⟨_,[],rfl,its_nil _ _,Below.refl _ _⟩
 ·have hsp:sp d=spl d.length 0 0 d:=if_neg h1
  have d1:decide ((d.length:Int)>4194304)=false:=by simp;omega
  have hI0:=its_empty w;have hw0:Below w.heap.size w (w.alloc (.cells #[] 24)):=(Below.refl _ _).alloc (Nat.le_refl _) _
  go_enter Tryz.func86,Tryz.ntmps86
  go_wp2_with (fail)
  generalize w.alloc (.cells #[] 24)=w0 at *
  go_loopw [5,6] (fun s i wr=>∃(q:Nat) (us:List Value) (ps:List (List B)) (so:Option Addr) (sc:Nat),q≤d.length∧i=.int .i64 (q:Int)∧s=.slice so ps.length sc∧ps.length≤4096∧Its wr w.heap.size (.slice so ps.length sc) us ps∧sp d=(spl (d.drop q).length q ps.length (d.drop q)).after ps∧Below w.heap.size w wr) (fun _ i _=>d.length-(intOf i).toNat)
  case atStart=>exact⟨0,[],[],_,_,by omega,rfl,rfl,by simp,hI0,by rw[hsp];exact(after_nil _).symm,hw0⟩
  case round=>
   clear hI0 hw0;clear hsp;obtain⟨q,us,ps,so,sc,hq,rfl,rfl,hps,hI,hsp,hw⟩:=hrel;have hws:=hw.size
   by_cases hlt:q<d.length
   ·have hd:decide ((q:Int)<(d.length:Int))=true:=by simp;omega
    have hne:d.drop q≠[]:=by intro e;have:=congrArg List.length e;rw[List.length_drop] at this;simp at this;omega
    by_cases hc:ps.length=4096
    ·rw[hc,spl_full hne] at hsp
     have hfin:Hid (sp d=.er 2 q):=hide hsp
     have d3:decide ((ps.length:Int)≥4096)=true:=by simp;omega
     clear hsp;replace hc:=hide hc
     generalize ps.length=pl at *
     go_wp2_with (fail)
     go_ret3
     rw[hfin.out];exact⟨_,[],rfl,its_nil _ _,hw⟩
    ·have d3:decide ((ps.length:Int)≥4096)=false:=by simp;omega
     have cN:=r_number d q hq wr _ (hB.keep hw)
     cases hr:rd 0 (d.drop q) with
     |er e=>
      rw[spl_er hne hc (ri_of_er hr)] at hsp;have hfin:Hid (sp d=.er e q):=hide hsp;rw[hr] at cN;unfold nres at cN
      have he:(e==0)=false:=by rcases rd_er _ _ _ hr with h|h<;>subst h<;>rfl
      clear hsp hr
      generalize ps.length=pl at *
      go_wp2_with (fail)
      refine cN.mono ?_;rintro e_ w1 ⟨rfl,hb⟩;replace hw:=Below.after hw hb;clear cN hb
      go_wp2_with (fail)
      go_ret3
      rw[hfin.out];exact⟨_,[],rfl,its_nil _ _,hw⟩
     |ok n k=>
      have hk:=rd0_len hr;rw[List.length_drop] at hk;have hn:=(rd0_ok hr).2.2;have hri:=ri_of hr;rw[hr] at cN;unfold nres at cN;rw[List.length_drop,List.drop_drop] at hri;have hcp:=hcap _ _ _ rfl
      by_cases h2:d.length-q-k<n
      ·rw[if_pos h2] at hri
       rw[spl_er hne hc hri] at hsp
       have hfin:Hid (sp d=.er 73 q):=hide hsp;clear hsp hri hr
       generalize hqk:q+k=r at *
       have d2:decide ((n:Int)>(d.length:Int)-(r:Int))=true:=by simp;omega
       generalize ps.length=pl at *
       go_wp2_with (fail)
       refine cN.mono ?_;rintro e_ w1 ⟨rfl,hb⟩;replace hw:=Below.after hw hb;clear cN hb
       go_wp2_with (fail)
       go_ret3
       rw[hfin.out];exact⟨_,[],rfl,its_nil _ _,hw⟩
      ·rw[if_neg h2] at hri
       rw[spl_step hne hc hri,after_cons,List.drop_drop] at hsp
       have hro:=ri_ok hri
       generalize hX:(d.drop (q+k)).take n=x at *
       have hxl:x.length=n:=by rw[←hX,List.length_take,List.length_drop];omega
       have hnext:Hid (sp d=(spl (d.drop (q+(k+n))).length (q+(k+n)) (ps++[x]).length (d.drop (q+(k+n)))).after (ps++[x])):=hide (by rw[hsp,List.length_append,List.length_singleton])
       have hsl:=sl_mid ao d.length cap (q+k) (q+k+n) (by omega) (by omega)
       have hbm:=fun V (h:BysB V (.slice ao d.length cap) d)=>bysB_mid (m:=q+k) (n:=q+k+n) h (by omega) (by omega) hcp
       rw[Nat.add_sub_cancel_left,hX] at hbm;clear hsp hri hr hro hne;replace hX:=hide hX
       have hxb:x.length≤140737488355000:=by omega
       replace hxl:=hide hxl
       have hqn:Hid (q+(k+n)≤d.length):=hide (by omega)
       generalize slc ao cap (q+k) (q+k+n)=u0 at *
       generalize hqk:q+k=r at *
       rw[Int.natCast_add] at hsl
       have d2:decide ((n:Int)>(d.length:Int)-(r:Int))=false:=by simp;omega
       have hb0':∀V:World,Below V.heap.size V (V.alloc (.cells #[] 5)):=fun V=>(Below.refl _ _).alloc (Nat.le_refl _) _
       generalize hpl:ps.length=pl at *
       go_wp2_with (fail)
       refine cN.mono ?_;rintro e_ w1 ⟨rfl,hb⟩;have hI1:=hI.keep hb;have hhi:=hI1.high;replace hw:=Below.after hw hb;clear cN hb;have hbe:=hb0' w1;have hwe:=Below.after hw hbe;have hE:=hbm _ (hB.keep hwe);have hOn:=own_nil w1
       go_wp2_with (at_builtin;suffices h9:True∧_ from h9.2)
       refine⟨trivial,?_⟩
       refine wpList_append_B rfl (.tmp 42) (.tmp 49) rfl w1.heap.size _ [] rfl hOn _ x rfl hE (by simp only[List.length_nil];omega) hbe.size ?_
       intro u2 w2 hO2 hgr;rw[List.nil_append] at hO2;have hbf:=hbe.grown hgr hbe.size (own_low hOn);clear hgr hOn hE hbm hbe;have hI2:=hI1.keep hbf;have hwf:=Below.after hw hbf;obtain⟨ao2,ac2,hu2⟩:=slen_own hO2;have hs2:=hbf.size;have hs1:=hw.size;have hba:Below w2.heap.size w2 (w2.alloc (.cells #[u2] 24)):=(Below.refl _ _).alloc (Nat.le_refl _) _;have hI3:=hI2.keep hba;have hO3:=own_alloc hO2 (.cells #[u2] 24);subst hu2
       go_wp2_with (at_builtin;suffices h9:True∧_ from h9.2)
       refine⟨trivial,?_⟩
       refine wpList_append_I rfl (.tmp 41) (.tmp 51) rfl w.heap.size _ us ps rfl w1.heap.size hI3 hhi.1 hhi.2 hs1 _ x hO3 w2.heap.size rfl (new_cell1 w2 _ _) (by omega) (by rw[size_alloc1];omega) ?_
       intro v4 w4 hI4 hgr
       have hw4:=(hwf.alloc hwf.size (.cells #[Value.slice ao2 x.length ac2] 24)).grown hgr (by rw[size_alloc1];omega) (fun k e=>(own_high_row hI.1 k e).1)
       obtain⟨ao4,ac4,hv4⟩:=slen_own hI4.1;have hlen4:(us++[Value.slice ao2 x.length ac2]).length=(ps++[x]).length:=hI4.2.1;rw[hlen4] at hv4
       have hps2:(ps++[x]).length≤4096:=by rw[List.length_append,List.length_singleton];omega
       generalize ps++[x]=ps2 at *
       subst hv4;clear hI hI1 hI2 hI3 hO2 hO3 hgr
       go_wp2_with (fail)
       refine⟨⟨q+(k+n),_,ps2,ao4,ac4,hqn.out,by congr 1;omega,rfl,hps2,hI4,hnext.out,hw4⟩,?_⟩
       simp[intOf];omega
   ·obtain rfl:q=d.length:=by omega
    have hd:decide ((d.length:Int)<(d.length:Int))=false:=by simp
    rw[List.drop_length,List.length_nil,spl,RS.after,List.append_nil] at hsp;have hfin:Hid (sp d=.ok ps):=hide hsp;clear hsp
    generalize hpl:ps.length=pl at *
    go_wp2_with (fail)
    go_ret3
    rw[hfin.out];exact⟨_,us,rfl,hI,hw⟩
end Go.Proofs.YtmmlkfkpblokiaaGreatDoor
namespace Go.Proofs.YtmmlkfkpblokiaaGreatDoor
set_option maxRecDepth 100000
open Go Go.RowKit Go.Sort
theorem rd_take {l:List B} {v n:Nat} (h:rd 0 l=.ok v n):l=en v++l.drop n∧l.take n=en v:=by
 obtain⟨⟨r,hr⟩,hn,_⟩:=rd0_ok h;subst hn
 constructor
 ·conv=>lhs;rw[hr]
  rw[hr,List.drop_left]
 ·rw[hr,List.take_left]
theorem rh_form {l:List B} {last:Int} {c:Nat} {no ty:Int} {n:Nat} (num:Nat) (dat:List B) (h:rh l last c=.ok no ty n):l=en (fhd ⟨no,ty,num,dat⟩)++l.drop n∧hck ⟨no,ty,num,dat⟩ last=0:=by
 unfold rh at h
 cases hr:rd 0 l with
 |er e=>rw[hr] at h;cases h
 |ok v m=>
  rw[hr] at h;simp only at h
  by_cases h1:c=64
  ·rw[if_pos h1] at h;cases h
  rw[if_neg h1] at h
  by_cases h2:536870911<v/8
  ·rw[if_pos h2] at h;cases h
  rw[if_neg h2] at h
  by_cases h3:hck ⟨((v:Int)/8),((v:Int)%8),0,[]⟩ last=0
  ·rw[if_neg (by rw[h3];simp)] at h
   injection h with e1 e2 e3
   subst e1 e2 e3;refine⟨?_,h3⟩
   have:fhd ⟨(v:Int)/8,(v:Int)%8,num,dat⟩=v:=by
    show 8*((v:Int)/8).toNat+((v:Int)%8).toNat=v
    omega
   rw[this];exact(rd_take hr).1
  ·rw[if_pos h3] at h;cases h
theorem take_fx (l:List B) (k:Nat) (h:k≤l.length):l=fx k (fxv (l.take k))++l.drop k:=by
 have:=fx_fxv (l.take k);rw[List.length_take,Nat.min_eq_left h] at this;rw[this,List.take_append_drop]
theorem rv_form {l:List B} {no ty:Int} {num m:Nat} {dat:List B} (hk:known ty) (h:rv l ty=.ok num dat m):l=fvl ⟨no,ty,num,dat⟩++l.drop m∧fits ⟨no,ty,num,dat⟩:=by
 unfold rv at h
 rcases hk with rfl|rfl|rfl|rfl
 ·rw[if_neg (by decide),if_neg (by decide),if_neg (by decide)] at h
  cases hr:rd 0 l with
  |er e=>rw[hr] at h;cases h
  |ok v n=>
   rw[hr] at h
   injection h with e1 e2 e3
   subst e1 e2 e3
   exact⟨(rd_take hr).1,by simp[fits]⟩
 ·rw[if_pos rfl] at h
  by_cases hl:l.length<8
  ·rw[if_pos hl] at h;cases h
  ·rw[if_neg hl] at h
   injection h with e1 e2 e3
   subst e1 e2 e3
   exact⟨take_fx l 8 (by omega),by simp[fits]⟩
 ·rw[if_neg (by decide),if_neg (by decide),if_pos rfl] at h
  cases hr:ri l with
  |er e=>rw[hr] at h;cases h
  |ok p n=>
   rw[hr] at h
   injection h with e1 e2 e3
   subst e1 e2 e3
   exact⟨(ri_ok hr).2.2.2.1,by simp[fits]⟩
 ·rw[if_neg (by decide),if_pos rfl] at h
  by_cases hl:l.length<4
  ·rw[if_pos hl] at h;cases h
  ·rw[if_neg hl] at h
   injection h with e1 e2 e3
   subst e1 e2 e3
   refine⟨take_fx l 4 (by omega),?_⟩
   have:=fxv_lt2 (l.take 4)
   rw[List.length_take,Nat.min_eq_left (by omega)] at this
   simp[fits]
   omega
theorem whl_ok {d:List B}:∀(k p:Nat) (last:Int) (c:Nat),d.length-p≤k→p≤d.length→c≤64→(whl d k p last c).2=none→
 ech ((whl d k p last c).1.map (·.2)) last=0∧ebs ((whl d k p last c).1.map (·.2))=d.drop p∧(whl d k p last c).1.length+c≤64
 |0,p,last,c,hk,hp,hc,_=>by
  have:p=d.length:=by omega
  subst this
  simp[whl,ech,ebs,hc]
 |k+1,p,last,c,hk,hp,hc,h=>by
  by_cases hlt:p<d.length
  ·rw[whl,if_pos hlt] at h⊢
   cases hr:rh (d.drop p) last c with
   |er e'=>rw[hr] at h;simp at h
   |ok no ty n=>
    rw[hr] at h
    simp only at h⊢
    obtain⟨hn0,hnl,hc64,hty,_⟩:=rh_ok hr;rw[List.length_drop] at hnl
    cases hv:rv (d.drop (p+n)) ty with
    |er e'=>rw[hv] at h;simp at h
    |ok num dat m=>
     rw[hv] at h
     simp only at h⊢
     have hml:=(rv_ok hv).1;rw[List.length_drop] at hml
     obtain⟨i1,i2,i3⟩:=whl_ok k (p+n+m) no (c+1) (by omega) (by omega) (by omega) h
     obtain⟨f1,f2⟩:=rh_form num dat hr;obtain⟨f3,f4⟩:=rv_form (no:=no) hty hv
     refine⟨?_,?_,by rw[List.length_cons];omega⟩
     ·have hf:fck ⟨no,ty,num,dat⟩ last=0:=by rw[fck,if_neg (by rw[f2];simp),if_pos f4]
      rw[List.map_cons,ech,if_neg (by rw[hf];simp)]
      exact i1
     ·rw[List.map_cons,ebs,i2,fby,List.append_assoc]
      rw[List.drop_drop] at f1 f3
      rw[←f3,←f1]
  ·rw[whl,if_neg hlt] at h⊢
   have:p=d.length:=by omega
   subst this
   simp[ech,ebs,hc]
theorem der_none {x:List (Nat×Fd)×Option (Nat×Int)} (hx:∀q e,x.2=some (q,e)→e≠0) (h:der x=0):x.2=none:=by
 cases hc:x.2 with
 |none=>rfl
 |some y=>
  obtain⟨q,e⟩:=y;simp only[der,hc] at h;exact absurd h (hx q e hc)
theorem dwh_er {d:List B}:∀q e,(dwh d).2=some (q,e)→e≠0:=by
 intro q e h;unfold dwh at h
 split at h
 ·simp at h;omega
 ·exact whl_er _ _ _ _ h
theorem dec_enc {d:List B} (h:der (dwh d)=0):eer (dfs (dwh d))=0∧eout (dfs (dwh d))=d:=by
 have hn:=der_none dwh_er h
 by_cases h1:4194304<d.length
 ·unfold dwh at hn
  rw[if_pos h1] at hn
  simp at hn
 ·have hd:dwh d=whl d d.length 0 0 0:=if_neg h1
  rw[hd] at hn⊢
  obtain⟨i1,i2,i3⟩:=whl_ok d.length 0 0 0 (by omega) (by omega) (by omega) hn
  have hf:dfs (whl d d.length 0 0 0)=(whl d d.length 0 0 0).1.map (·.2):=by simp[dfs,hn]
  rw[List.drop_zero] at i2
  have he:eer (dfs (whl d d.length 0 0 0))=0:=by
   rw[hf,eer,if_neg (by rw[List.length_map];omega),if_neg (by rw[i1];simp),if_neg (by rw[i2];omega)]
  exact⟨he,by rw[eout,if_pos he,hf,i2]⟩
theorem spl_ok:∀(f p c:Nat) (l:List B) (ps:List (List B)),l.length≤f→c≤4096→spl f p c l=.ok ps→jn ps=l∧ps.length+c≤4096
 |0,p,c,l,ps,hf,hc,h=>by
  have:l=[]:=List.length_eq_zero_iff.1 (by omega)
  rw[spl] at h
  injection h with h
  subst h this
  exact⟨rfl,by simp;exact hc⟩
 |f+1,p,c,l,ps,hf,hc,h=>by
  rw[spl] at h
  by_cases h0:l=[]
  ·rw[if_pos h0] at h
   injection h with h
   subst h h0
   exact⟨rfl,by simp;exact hc⟩
  rw[if_neg h0] at h
  by_cases h1:c=4096
  ·rw[if_pos h1] at h;cases h
  rw[if_neg h1] at h
  cases hr:ri l with
  |er e=>rw[hr] at h;cases h
  |ok x n=>
   rw[hr] at h;simp only at h;obtain⟨r1,r2,r3,r4,r5⟩:=ri_ok hr
   cases hs:spl f (p+n) (c+1) (l.drop n) with
   |er e q=>rw[hs] at h;cases h
   |ok qs=>
    rw[hs] at h
    injection h with h
    subst h
    obtain⟨i1,i2⟩:=spl_ok f (p+n) (c+1) (l.drop n) qs (by rw[List.length_drop];omega) (by omega) hs
    exact⟨by rw[jn,i1,←r4],by rw[List.length_cons];omega⟩
end Go.Proofs.YtmmlkfkpblokiaaGreatDoor
namespace Go.Proofs.YtmmlkfkpblokiaaGreatDoor
set_option maxRecDepth 100000
open Go Go.RowKit Go.Sort
attribute [local go_sem] setCell_drewN alloc_drewN
theorem whl_oks {d:List B} (hd:d.length≤4194304):∀(k p:Nat) (last:Int) (c:Nat),∀x∈(whl d k p last c).1,Fok x.2
 |0,_,_,_,x,h=>by simp[whl] at h
 |k+1,p,last,c,x,h=>by
  by_cases hlt:p<d.length
  ·rw[whl,if_pos hlt] at h
   cases hr:rh (d.drop p) last c with
   |er e'=>rw[hr] at h;simp at h
   |ok no ty n=>
    rw[hr] at h;simp only at h
    cases hv:rv (d.drop (p+n)) ty with
    |er e'=>rw[hv] at h;simp at h
    |ok num dat m=>
     rw[hv] at h;simp only at h
     rcases List.mem_cons.1 h with rfl|h
     ·have h1:=rv_ok hv
      have h2:=rh_ok hr
      rw[List.length_drop] at h1
      exact⟨h1.2.1,by show dat.length≤_;omega,by show _≤no;omega,by show no≤_;omega⟩
     ·exact whl_oks hd k _ _ _ x h
  ·rw[whl,if_neg hlt] at h;simp at h
theorem dfs_oks (d:List B):∀i,i<(dfs (dwh d)).length→Fok (gf (dfs (dwh d)) i):=by
 intro i hi
 have hm:gf (dfs (dwh d)) i∈dfs (dwh d):=by
  rw[gf,List.getD_eq_getElem?_getD,List.getElem?_eq_getElem hi];exact List.getElem_mem hi
 generalize gf (dfs (dwh d)) i=f at hm;clear hi;unfold dfs at hm
 split at hm
 ·obtain⟨x,hx,rfl⟩:=List.mem_map.1 hm
  unfold dwh at hx
  split at hx
  ·simp at hx
  ·exact whl_oks (by omega) _ _ _ _ x hx
 ·simp at hm
theorem dfs_len (d:List B) (h:der (dwh d)=0):(dfs (dwh d)).length≤64:=by
 have h1:=(dec_enc h).1;unfold eer at h1
 split at h1
 ·simp at h1
 ·omega
end Go.Proofs.YtmmlkfkpblokiaaGreatDoor
namespace Go.Proofs.YtmmlkfkpblokiaaGreatDoor
set_option maxRecDepth 100000
open Go Go.RowKit Go.Sort
end Go.Proofs.YtmmlkfkpblokiaaGreatDoor
namespace Go.Proofs.YtmmlkfkpblokiaaGreatDoor
set_option maxRecDepth 100000
open Go Go.ChangeShapes Go.WideShapes Go.ChangeAt Go.RowKit
theorem cU86:Tryz.prog.cellsOf 5=1:=by kernel_rfl
theorem bU86:Tryz.prog.bytesOf 5=1:=by kernel_rfl
theorem block_lt6 {w:World} {b o:Nat} {v:Value} (h:w.cell? ⟨b,o,none⟩=some v):b<w.heap.size:=by
 rcases Nat.lt_or_ge b w.heap.size with q|q
 ·exact q
 ·simp[World.cell?,Array.getElem?_eq_none q] at h
def BysC (W:World) (v:Value) (d:List B):Prop:=BysB W v d∧d.length≤140737488351232∧∀a l c,v=.slice a l c→l≤c
theorem bysC_of_trod {H:Type} {enc:TypeId×Value→H} {W:World} {m:Nat} {cs:List Value} {x:DataW H×List MemPlace} (hf:DataW.trod enc Tryz.prog W 0 (fun _=>true) true m 24 cs=some x) (hs:∀n∈x.1.weights Tryz.prog 24,n≤reachBytes):∃v d,cs=[v]∧BysC W v d:=by
 rcases open_ints Tryz.underlying24 Tryz.underlying5 cU86 hf with⟨hcs,hx⟩|⟨a,len,cap,zs,hcs,_,hl,hm,hz,hx,hcell,hwz⟩
 ·exact⟨_,[],hcs,⟨⟨none,0,rfl,by decide,fun j hj=>by simp[bl] at hj,bl_bnd _⟩,by decide,fun a l c h _=>by cases h;rfl⟩,by simp,fun a l c h=>by cases h;exact Nat.le_refl _⟩
 ·subst hx
  simp only[if_true] at hz
  have hb:=hs ((lits (H:=H) .u8 (zs.take len)).length+(lits (H:=H) .u8 (zs.drop len)).length) (by simp[DataW.weights,Tryz.underlying24,bU86])
  simp only[lits,List.length_map,List.length_take,List.length_drop,reachBytes] at hb
  have hlen:(zs.take len).length=len:=by rw[List.length_take];omega
  obtain⟨d,hd,e⟩:=bl_of (zs.take len) (fun z h=>u8_of_wf (hwz z (List.mem_of_mem_take h)))
  rw[hlen] at e
  refine⟨_,d,hcs,⟨⟨some a,cap,by rw[bl_len,e],by rw[bl_len];omega,fun j hj=>?_,bl_bnd _⟩,by omega,fun a l c h h2=>by cases h;cases h2⟩,by omega,fun a l c h=>by cases h;exact hl⟩
  rw[bl_len,e] at hj
  have hc:=hcell j (by omega)
  obtain⟨bb,off,spot⟩:=a
  have hspot:spot=none:=by simpa[Addr.add] using World.cell?_spot (hcell 0 (by omega))
  subst hspot;rw[addr_add] at hc;refine⟨bb,off,rfl,block_lt6 hc,?_⟩;rw[hc,←hd,List.getD_eq_getElem?_getD,List.getD_eq_getElem?_getD,List.getElem?_take_of_lt hj]
end Go.Proofs.YtmmlkfkpblokiaaGreatDoor
namespace Go.Proofs.YtmmlkfkpblokiaaGreatDoor
set_option maxRecDepth 100000
open Go Go.ChangeShapes Go.WideShapes Go.ChangeAt Go.RowKit Go.Deep
end Go.Proofs.YtmmlkfkpblokiaaGreatDoor
namespace Go.Proofs.YtmmlkfkpblokiaaGreatDoor
set_option maxRecDepth 100000
open Go Go.RowKit Go.Sort
attribute [local go_sem] setCell_drewN alloc_drewN
end Go.Proofs.YtmmlkfkpblokiaaGreatDoor
namespace Go.Proofs.YtmmlkfkpblokiaaGreatDoor
set_option maxRecDepth 100000
open Go Go.RowKit Go.Sort
def rdE (at_ E:Int):Option Flt3:=if E=0 then none else some ⟨0,at_,E⟩
theorem fdrop (fs:List Fd) (k:Nat) (h:k<fs.length):fs.drop k=gf fs k::fs.drop (k+1):=by
 rw[List.drop_eq_getElem_cons h]
 simp[gf,List.getD_eq_getElem?_getD,List.getElem?_eq_getElem h]
theorem en_head (no ty:Nat) (ht:ty<8):(en (8*no+ty)).length=(en (8*no)).length:=by
 by_cases h:no<16
 ·rw[en_lo (n:=8*no+ty) (by omega),en_lo (n:=8*no) (by omega)]
  rfl
 ·rw[en_hi (n:=8*no+ty) (by omega),en_hi (n:=8*no) (by omega),List.length_cons,List.length_cons,show(8*no+ty)/128=8*no/128 by omega]
end Go.Proofs.YtmmlkfkpblokiaaGreatDoor
