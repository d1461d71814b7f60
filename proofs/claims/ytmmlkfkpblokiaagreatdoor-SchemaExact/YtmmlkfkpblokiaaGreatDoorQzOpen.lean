import Derived.Test.YtmmlkfkpblokiaaGreatDoorProg
import Derived.ProofKit
import Derived.OpenShut
import Derived.OrdersHeld
import Derived.WalkKit
import Derived.WalkSpells
import Derived.WalkLawsBesides
import Derived.Lib.QuietBelow
import Derived.BigQuiet
import Derived.Laws.CopyOwn
import Derived.Tactics
import Derived.Laws.Rows
import Derived.RegionTactic
import Derived.Deep.MidRow
import Derived.ChangeKeysEq
import Derived.Laws.StructEq
import Derived.Deep.OwnRows
import Derived.OwnWalk
import Derived.Deep.RegionHeld3
import Derived.Deep.DeepAppendRoom
import Derived.Lib.Tables
set_option maxRecDepth 100000
set_option maxHeartbeats 16000000
namespace Go.Proofs.YtmmlkfkpblokiaaGreatDoor
open Go Go.ChangeShapes Go.WideShapes Go.ChangeAt Go.RowKit
section
variable {P : Program} {H : Type} {enc : TypeId × Value → H} {w : World}
theorem u8_of_wf {x:Int} (h:(Lit.int .u8 x).wf=true):0≤x∧x<256:=by
 have:=bounds_u8 h;omega
end
end Go.Proofs.YtmmlkfkpblokiaaGreatDoor
namespace Go.Proofs.YtmmlkfkpblokiaaGreatDoor
abbrev nS:Value:=.slice none 0 0
theorem ZPa {α:Type _} {xs:List α} {i:Nat} (h:i<xs.toArray.size):xs.toArray[i]=xs[i]'(by simpa using h):=rfl
theorem ZPb {α:Type _} (a:α) (xs:List α) (i:Nat) (h:i+1<(a::xs).length):(a::xs)[i+1]=xs[i]'(Nat.lt_of_succ_lt_succ h):=rfl
theorem ZPc {α:Type _} (a:α) (xs:List α) (h:0<(a::xs).length):(a::xs)[0]=a:=rfl
theorem ZPd {α:Type _} (l:List α) (i:Nat) (a:α):l.toArray.setIfInBounds i a=(l.set i a).toArray:=List.setIfInBounds_toArray l i a
theorem ZPe {α:Type _} {x:α} {xs:List α} {i:Nat} {a:α}:(x::xs).set (i+1) a=x::xs.set i a:=rfl
theorem ZPf {α:Type _} {x:α} {xs:List α} {a:α}:(x::xs).set 0 a=a::xs:=rfl
theorem wTy {P:Program} {ops:Array Oper} {Q:Exit→Act→World→Prop} {md:Region.Mode} {S:World→Prop} (i:Nat) {oi:Oper} (v:Value) {fuel:Nat} {listed:Array Bool} {a:Act} {w:World} (hi:ops[i]? =some oi) (hy:∀w,S w→(execOp a.eval oi).run P w=.ok (.value v) w) (hS:S w)
    (h:wpAnyH P md ops Q S fuel (listed.setIfInBounds i true) (a.put oi.dst v) w) (hw:Region.wanted oi (yielded ops a.tmps)=true:=by rfl) (hs:Region.noSelect ops=true:=by kernel_rfl) (hf:Region.free md ops listed i=true:=by kernel_rfl) (hr:(Region.ready md ops listed).contains i=true:=by kernel_rfl)
    (hQ:∀c a w,Q (.panic c) (a.put oi.dst v) w→Q (.panic c) a w:=by exact fun _ _ _ h=>h):wpAnyH P md ops Q S (fuel+1) listed a w:=wpAnyH_take hi hs hf hr hQ (.inl ⟨hw,hy⟩) hS h
theorem wTk {P:Program} {ops:Array Oper} {Q:Exit→Act→World→Prop} {md:Region.Mode} {S:World→Prop} {i:Nat} {oi:Oper} {v:Value} {fuel:Nat} {listed:Array Bool} {a:Act} {w:World} (hi:ops[i]? =some oi) (hy:YieldsIf P ops S oi v a) (hS:S w)
    (h:wpAnyH P md ops Q S fuel (listed.setIfInBounds i true) (a.put oi.dst v) w) (hs:Region.noSelect ops=true:=by kernel_rfl) (hf:Region.free md ops listed i=true:=by kernel_rfl) (hr:(Region.ready md ops listed).contains i=true:=by kernel_rfl)
    (hQ:∀c a w,Q (.panic c) (a.put oi.dst v) w→Q (.panic c) a w:=by exact fun _ _ _ h=>h):wpAnyH P md ops Q S (fuel+1) listed a w:=wpAnyH_take hi hs hf hr hQ hy hS h
open Go.RowKit Go.Sort
theorem setCell_drewN (w:World) (n:Nat) (a:Addr) (v:Value):(w.drewN n).setCell a v=(w.setCell a v).drewN n:=rfl
theorem alloc_drewN (w:World) (n:Nat) (o:Obj):(w.drewN n).alloc o=(w.alloc o).drewN n:=rfl
theorem below_drN {B:Nat} {a w:World} (h:Below B a w) (n:Nat):Below B a (w.drewN n):=⟨h.os,h.tape,h.output,h.size,h.block⟩
theorem hp1_0 (w:World) (o0:Obj):(w.alloc o0).heap[w.heap.size]? =some o0:=by
 show(w.heap.push o0)[w.heap.size]? =_
 rw[Array.getElem?_push,if_pos rfl]
theorem hp2_0 (w:World) (o0 o1:Obj):((w.alloc o0).alloc o1).heap[w.heap.size]? =some o0:=by
 show((w.heap.push o0).push o1)[w.heap.size]? =_
 rw[Array.getElem?_push,if_neg (by simp only[Array.size_push];omega)]
 rw[Array.getElem?_push,if_pos rfl]
theorem hp2_1 (w:World) (o0 o1:Obj):((w.alloc o0).alloc o1).heap[w.heap.size+1]? =some o1:=by
 show((w.heap.push o0).push o1)[w.heap.size+1]? =_
 rw[Array.getElem?_push,if_pos (by simp only[Array.size_push])]
theorem hp3_0 (w:World) (o0 o1 o2:Obj):(((w.alloc o0).alloc o1).alloc o2).heap[w.heap.size]? =some o0:=by
 show(((w.heap.push o0).push o1).push o2)[w.heap.size]? =_
 rw[Array.getElem?_push,if_neg (by simp only[Array.size_push];omega)]
 rw[Array.getElem?_push,if_neg (by simp only[Array.size_push];omega)]
 rw[Array.getElem?_push,if_pos rfl]
theorem hp3_1 (w:World) (o0 o1 o2:Obj):(((w.alloc o0).alloc o1).alloc o2).heap[w.heap.size+1]? =some o1:=by
 show(((w.heap.push o0).push o1).push o2)[w.heap.size+1]? =_
 rw[Array.getElem?_push,if_neg (by simp only[Array.size_push];omega)]
 rw[Array.getElem?_push,if_pos (by simp only[Array.size_push])]
theorem hp3_2 (w:World) (o0 o1 o2:Obj):(((w.alloc o0).alloc o1).alloc o2).heap[w.heap.size+1+1]? =some o2:=by
 show(((w.heap.push o0).push o1).push o2)[w.heap.size+1+1]? =_
 rw[Array.getElem?_push,if_pos (by simp only[Array.size_push])]
theorem hp4_0 (w:World) (o0 o1 o2 o3:Obj):((((w.alloc o0).alloc o1).alloc o2).alloc o3).heap[w.heap.size]? =some o0:=by
 show((((w.heap.push o0).push o1).push o2).push o3)[w.heap.size]? =_
 rw[Array.getElem?_push,if_neg (by simp only[Array.size_push];omega)]
 rw[Array.getElem?_push,if_neg (by simp only[Array.size_push];omega)]
 rw[Array.getElem?_push,if_neg (by simp only[Array.size_push];omega)]
 rw[Array.getElem?_push,if_pos rfl]
theorem hp4_1 (w:World) (o0 o1 o2 o3:Obj):((((w.alloc o0).alloc o1).alloc o2).alloc o3).heap[w.heap.size+1]? =some o1:=by
 show((((w.heap.push o0).push o1).push o2).push o3)[w.heap.size+1]? =_
 rw[Array.getElem?_push,if_neg (by simp only[Array.size_push];omega)]
 rw[Array.getElem?_push,if_neg (by simp only[Array.size_push];omega)]
 rw[Array.getElem?_push,if_pos (by simp only[Array.size_push])]
theorem hp4_2 (w:World) (o0 o1 o2 o3:Obj):((((w.alloc o0).alloc o1).alloc o2).alloc o3).heap[w.heap.size+1+1]? =some o2:=by
 show((((w.heap.push o0).push o1).push o2).push o3)[w.heap.size+1+1]? =_
 rw[Array.getElem?_push,if_neg (by simp only[Array.size_push];omega)]
 rw[Array.getElem?_push,if_pos (by simp only[Array.size_push])]
theorem hp4_3 (w:World) (o0 o1 o2 o3:Obj):((((w.alloc o0).alloc o1).alloc o2).alloc o3).heap[w.heap.size+1+1+1]? =some o3:=by
 show((((w.heap.push o0).push o1).push o2).push o3)[w.heap.size+1+1+1]? =_
 rw[Array.getElem?_push,if_pos (by simp only[Array.size_push])]
end Go.Proofs.YtmmlkfkpblokiaaGreatDoor
namespace Go.Proofs.YtmmlkfkpblokiaaGreatDoor
open Go.RowKit Go.Sort
end Go.Proofs.YtmmlkfkpblokiaaGreatDoor
namespace Go.Proofs.YtmmlkfkpblokiaaGreatDoor
open Go Go.RowKit
def Closed (L:List Oper) (listed:Array Bool):Prop:=∀k x,L[k]? =some x→listed.getD k false=true→∀e∈x.after,Region.binds .any e=true→listed.getD e.on false=true
section
variable {P : Program} {C : World → Prop} {L : List Oper} {m : Nat} {o : Oper}
theorem Closed.set {listed:Array Bool} (hc:Closed L listed) {i:Nat} (hr:i∈Region.ready .any L.toArray listed):Closed L (listed.setIfInBounds i true):=by
 intro k x hx hk e he hb;obtain⟨h0,o',ho',hall⟩:=mem_ready.1 hr
 by_cases hki:i=k
 ·subst hki
  have:o'=x:=by have:=ho'.symm.trans (by simpa using hx:L.toArray[i]? =some x);simpa using this
  subst this;exact getD_set_true (hall e he hb)
 ·rw[getD_set_ne false hki] at hk
  exact getD_set_true (hc k x hx hk e he hb)
end
end Go.Proofs.YtmmlkfkpblokiaaGreatDoor
namespace Go.Proofs.YtmmlkfkpblokiaaGreatDoor
open Go Go.RowKit Go.Sort
end Go.Proofs.YtmmlkfkpblokiaaGreatDoor
namespace Go.Proofs.YtmmlkfkpblokiaaGreatDoor
open Go Go.RowKit
section
variable {P : Program} {C : World → Prop} {L : List Oper} {m x : Nat} {o ox : Oper}
end
end Go.Proofs.YtmmlkfkpblokiaaGreatDoor
namespace Go.Proofs.YtmmlkfkpblokiaaGreatDoor
open Go Go.RowKit Go.Sort
theorem wp_call_ex {P:Program} {o:Oper} {a:Act} {w:World} {K:Act→World→Prop} {Q:Exit→Act→World→Prop} {f:FuncId} {args:Array Value} {R:Value→World→Prop} (hx:(execOp a.eval o).run P w=.ok (.enter f args) w)
 (c:Calls P f args w fun e w'=>∃v,e=.returned v∧R v w') (h:∀v w',R v w'→K (a.put o.dst v) w'):o.wp P a w K Q:=by
 unfold Oper.wp;rw[hx,Oper.upon_enter]
 exact c.mono fun e w' ⟨v,he,hb⟩=>by subst he;exact h v w' hb
theorem wp_pure_op {P:Program} {o:Oper} {a:Act} {w:World} {K:Act→World→Prop} {Q:Exit→Act→World→Prop} (v:Value) (hx:(execOp a.eval o).run P w=.ok (.value v) w) (h:K (a.put o.dst v) w):o.wp P a w K Q:=by
 unfold Oper.wp;rw[hx,Oper.upon_value];exact h
def Cl (w:World):World→Prop:=fun W=>∃p:Regrown,W=grow (redrawn w p.d) p.os
theorem Cl.refl (w:World):Cl w w:=⟨⟨w.drawn,#[]⟩,by rw[grow_empty];rfl⟩
theorem Cl.below {w W:World} (h:Cl w W):Below w.heap.size w W:=by obtain⟨p,rfl⟩:=h;exact below_regrown w p.d p.os
section
variable {P : Program} {L : List Oper} {q m : Nat} {Ts : List Tmp}
end
section
variable {P : Program}
variable {L : List Oper} {q m : Nat} {Ts : List Tmp}
end
section
variable {P : Program} {L : List Oper} {q m : Nat} {Ts : List Tmp}
end
def ovw:Array Value→Nat→List Value→Array Value
 |cs,_,[]=>cs
 |cs,o,v::r=>ovw (cs.setIfInBounds o v) (o+1) r
theorem world_eq {w v:World} (h:w.heap=v.heap) (h1:w.tape=v.tape) (h2:w.drawn=v.drawn) (h3:w.os=v.os) (h4:w.output=v.output):w=v:=by
 cases w;cases v;simp_all
theorem setRow_same {w:World} {g:Nat} {cs:Array Value} {t:TypeId} {fr:Nat×Nat} (h:w.heap[g]? =some (.cells cs t fr)):w.setRow g cs=w:=by
 refine world_eq ?_ rfl rfl rfl rfl
 apply Array.ext_getElem?
 intro k
 by_cases hk:k=g
 ·subst hk;rw[setRow_heap w k cs cs t fr h,h]
 ·rw[setRow_other w g k cs hk]
theorem setRow_setRow {w:World} {g:Nat} {cs:Array Value} {t:TypeId} {fr:Nat×Nat} (h:w.heap[g]? =some (.cells cs t fr)) (a b:Array Value):(w.setRow g a).setRow g b=w.setRow g b:=by
 refine world_eq ?_ rfl rfl rfl rfl
 apply Array.ext_getElem?
 intro k
 by_cases hk:k=g
 ·subst hk;rw[setRow_heap _ k a b t fr (setRow_heap w k cs a t fr h),setRow_heap w k cs b t fr h]
 ·rw[setRow_other _ g k b hk,setRow_other w g k a hk,setRow_other w g k b hk]
theorem setCells_eq {g:Nat} {t:TypeId} {fr:Nat×Nat}:∀(vs:List Value) (o:Nat) (w:World) (cs:Array Value),w.heap[g]? =some (.cells cs t fr)→w.setCells g o vs=w.setRow g (ovw cs o vs)
 |[],_,w,cs,h=>(setRow_same h).symm
 |v::r,o,w,cs,h=>by
  have h1:w.setCell ⟨g,o,none⟩ v=w.setRow g (cs.setIfInBounds o v):=setCell_eq_setRow w g o cs t fr v h;rw[World.setCells,h1,setCells_eq r (o+1) _ (cs.setIfInBounds o v) (setRow_heap w g cs _ t fr h),setRow_setRow h];rfl
theorem there_row {w:World} {g:Nat} {cs:Array Value} {t:TypeId} (h:w.heap[g]? =some (.cells cs t (0,0))) {o n:Nat} (hn:o+n≤cs.size):w.there g o n:=by
 intro j hj;refine⟨?_,?_⟩
 ·rw[cell_of_row w g (o+j) cs t (0,0) h,Array.getElem?_eq_getElem (by omega)];rfl
 ·simp[World.frozen?,h]
theorem five {r:Array Value} (h:r.size=5):∃a b c d e,r=#[a,b,c,d,e]:=by
 obtain⟨l⟩:=r
 match l,h with
 |[a,b,c,d,e],_=>exact⟨a,b,c,d,e,rfl⟩
def r4 (a b c d:Array Value):Array Value:=(a.toList++(b.toList++(c.toList++d.toList))).toArray
theorem wp_world_op {P:Program} {o:Oper} {a:Act} {w:World} {K:Act→World→Prop} {Q:Exit→Act→World→Prop} (v:Value) (w':World) (hx:(execOp a.eval o).run P w=.ok (.value v) w') (h:K (a.put o.dst v) w'):o.wp P a w K Q:=by
 unfold Oper.wp;rw[hx,Oper.upon_value];exact h
section
variable {P : Program}
end
def Gives (f:FuncId) (args:Array Value) (v:Value):Prop:=∀W,Calls Tryz.prog f args W fun e w'=>e=.returned v∧Below W.heap.size W w'
theorem Gives.at {f:FuncId} {args:Array Value} {v:Value} (h:Gives f args v) (W:World):Calls Tryz.prog f args W fun e w'=>e=.returned v∧Below W.heap.size W w':=h W
theorem Gives.re {f:FuncId} {args:Array Value} {v:Value} (h:Gives f args v) {w:World} {d:Nat} {os:Array Obj}:Calls Tryz.prog f args (grow (redrawn w d) os) fun e w''=>e=.returned v∧∃p:Regrown,w''=grow (redrawn w p.d) p.os:=Calls.regrown_of (h _)
theorem hide {p:Prop} (h:p):Hid p:=h
theorem Hid.out {p:Prop} (h:Hid p):p:=h
theorem keep {w W:World} (hb:Below w.heap.size w W) {g:Nat} {o:Obj} (h:w.heap[g]? =some o):W.heap[g]? =some o:=
 (hb.block _ (Array.getElem?_eq_some_iff.1 h).1).trans h
theorem lt_of_row {w:World} {g:Nat} {o:Obj} (h:w.heap[g]? =some o):g<w.heap.size:=(Array.getElem?_eq_some_iff.1 h).1
theorem Below.after {w w1 w2:World} (h:Below w.heap.size w w1) (hb:Below w1.heap.size w1 w2):Below w.heap.size w w2:=h.trans (hb.mono h.size)
theorem wpList_load_want {P:Program} {ops:Array Oper} {rest:List Oper} {o:Oper} {a:Act} {w:World} {Q:Exit→Act→World→Prop} (hw:Region.wanted o (yielded ops a.tmps)=true) (ty:TypeId) (x:Operand) (ho:o.op=.load ty x)
 (g:Nat) (hx:a.eval x=.pointer (some ⟨g,0,none⟩)) (t:TypeId) (cs:Array Value) (fr:Nat×Nat) (d:TypeDesc) (hg:w.heap[g]? =some (.cells cs t fr))
 (hu:P.underlying ty=some d) (hd:(match d with| .struct _| .array _ _=>true|_=>false)=true) (hi:(P.info? ty).map (·.size)=some cs.size)
 (h:wpList P ops Q rest (a.put o.dst (.agg cs)) w):wpList P ops Q (o::rest) a w:=
 BigFrame.wpList_want hw fun _ hK=>wp_load_row ty x ho g hx t cs fr d hg hu hd hi (hK _ _ h)
theorem wpList_alloc {P:Program} {ops:Array Oper} {rest:List Oper} {o:Oper} {a:Act} {w:World} {Q:Exit→Act→World→Prop} (hw:Region.wanted o (yielded ops a.tmps)=true) (ty:TypeId) (ho:o.op=.alloc ty) (cs:Array Value)
 (hz:∀W,(Instr.alloc ty true (.tuple #[])).run P W=.ok (.pointer (some ⟨W.heap.size,0,none⟩)) (W.alloc (.cells cs ty)))
 (h:wpList P ops Q rest (a.put o.dst (.pointer (some ⟨w.heap.size,0,none⟩))) (w.alloc (.cells cs ty))):wpList P ops Q (o::rest) a w:=by
 refine BigFrame.wpList_want hw fun _ hK=>wp_world_op _ _ ?_ (hK _ _ h)
 unfold execOp;simp only[ho,Sem.run_bind,Sem.run_pure,hz,Result.andThen_ok]
theorem wpList_box {P:Program} {ops:Array Oper} {rest:List Oper} {o:Oper} {a:Act} {w:World} {Q:Exit→Act→World→Prop} (hw:Region.wanted o (yielded ops a.tmps)=true) (ty:TypeId) (x:Operand) (ho:o.op=.box ty x) (cs:Array Value) (hx:a.eval x=.agg cs)
 (hz:∀W,(Instr.box ty (.agg cs)).run P W=.ok (.pointer (some ⟨W.heap.size,0,none⟩)) (W.alloc (.cells cs ty)))
 (h:wpList P ops Q rest (a.put o.dst (.pointer (some ⟨w.heap.size,0,none⟩))) (w.alloc (.cells cs ty))):wpList P ops Q (o::rest) a w:=by
 refine BigFrame.wpList_want hw fun _ hK=>wp_world_op _ _ ?_ (hK _ _ h)
 unfold execOp;simp only[ho,hx,Sem.run_bind,Sem.run_pure,hz,Result.andThen_ok]
theorem size_alloc1 (w:World) (o:Obj):(w.alloc o).heap.size=w.heap.size+1:=Array.size_push ..
theorem addr_add (b off j:Nat):(⟨b,off,none⟩:Addr).add j=⟨b,off+j,none⟩:=by
 unfold Addr.add
 split
 ·rename_i h;rw[h];rfl
 ·rfl
def irow (k:IntKind) (l:List Int):Array Value:=(l.map (Value.int k)).toArray
theorem irow_size (k:IntKind) (l:List Int):(irow k l).size=l.length:=by simp[irow]
theorem irow_get (k:IntKind) (l:List Int) (j:Nat) (hj:j<l.length):(irow k l)[j]? =some (.int k (l.getD j 0)):=by
 simp[irow,List.getElem?_eq_getElem hj,List.getD_eq_getElem?_getD]
theorem row_frozen {W:World} {g:Nat} {cs:Array Value} {t:TypeId} (hg:W.heap[g]? =some (.cells cs t (0,0))) (j:Nat):W.frozen? ⟨g,j,none⟩=false:=by
 simp[World.frozen?,hg]
theorem heap_other {W:World} {g g' j:Nat} {v:Value} {o:Obj} (h:W.heap[g']? =some o) (hne:g'≠g):(W.setCell ⟨g,j,none⟩ v).heap[g']? =some o:=by
 rw[←h];exact heap_setCell_other W ⟨g,j,none⟩ g' v hne
theorem ints_one (k:IntKind) (l:List Int):∀u∈l.map (Value.int k),u.oneCell'=true:=by
 intro u hu;obtain⟨z,_,rfl⟩:=List.mem_map.1 hu;rfl
def zr (k:Nat):List Int:=List.replicate k 0
theorem zr_len (k:Nat):(zr k).length=k:=by simp[zr]
def Bys (W:World) (v:Value) (bs:List Int):Prop:=∃ao cap,v=.slice ao bs.length cap∧bs.length≤9223372036854775807∧(∀j,j<bs.length→∃b off,ao=some ⟨b,off,none⟩∧b<W.heap.size∧W.cell? ⟨b,off+j,none⟩=some (.int .u8 (bs.getD j 0)))∧(∀z∈bs,0≤z∧z<256)
theorem Bys.keep {W W':World} {v:Value} {bs:List Int} (h:Bys W v bs) (hb:Below W.heap.size W W'):Bys W' v bs:=by
 obtain⟨ao,cap,e,hl,hc,hz⟩:=h
 refine⟨ao,cap,e,hl,fun j hj=>?_,hz⟩
 obtain⟨b,off,e1,h1,h2⟩:=hc j hj;exact⟨b,off,e1,Nat.lt_of_lt_of_le h1 hb.size,(hb.cell h1).trans h2⟩
end Go.Proofs.YtmmlkfkpblokiaaGreatDoor
namespace Go.Proofs.YtmmlkfkpblokiaaGreatDoor
abbrev B:=BitVec 8
def en (n:Nat):List B:=if n<128 then[BitVec.ofNat 8 n] else BitVec.ofNat 8 (n%128+128)::en (n/128)
termination_by n
decreasing_by omega
theorem en_lo {n:Nat} (h:n<128):en n=[BitVec.ofNat 8 n]:=by rw[en,if_pos h]
theorem en_hi {n:Nat} (h:¬n<128):en n=BitVec.ofNat 8 (n%128+128)::en (n/128):=by rw[en,if_neg h]
inductive RN where
 |er (e:Int)
 |ok (v n:Nat)
def rd:Nat→List B→RN
 |_,[]=>.er 73
 |i,x::l=>if 128≤x.toNat then(if i=9 then .er 70 else match rd (i+1) l with
  | .ok v n=>.ok (v*128+(x.toNat-128)) (n+1)
  | .er e=>.er e) else if(i=9∧1<x.toNat)∨(0<i∧x.toNat=0) then .er 70 else .ok x.toNat 1
theorem b_of (n:Nat) (h:n<256):(BitVec.ofNat 8 n).toNat=n:=by rw[BitVec.toNat_ofNat];omega
theorem two_split (i:Nat) (h:i≤8):2^(64-7*i)=128*2^(64-7*(i+1)):=by
 rw[show 64-7*i=7+(64-7*(i+1)) by omega,Nat.pow_add]
theorem rd_en (n:Nat):∀i r,i≤9→n<2^(64-7*i)→(0<i→0<n)→rd i (en n++r)=.ok n (en n).length:=by
 induction n using Nat.strongRecOn with
 |ind n ih=>
  intro i r hi hn h0
  by_cases h:n<128
  ·rw[en_lo h,List.cons_append,rd,b_of n (by omega),if_neg (by omega),if_neg]
   ·rfl
   ·rintro(⟨rfl,h1⟩|⟨h1,h2⟩)
    ·have:(2:Nat)^(64-7*9)=2:=by decide
     omega
    ·have:=h0 h1;omega
  ·have hi8:i≤8:=by
    rcases Nat.lt_or_ge i 9 with q|q
    ·omega
    ·obtain rfl:i=9:=by omega
     have:(2:Nat)^(64-7*9)=2:=by decide
     omega
   have e:=ih (n/128) (by omega) (i+1) r (by omega) (by have:=two_split i hi8;omega) (by omega)
   rw[en_hi h,List.cons_append,rd,b_of _ (by omega),if_pos (by omega),if_neg (by omega),e]
   have h9:n/128*128+(n%128+128-128)=n:=by omega
   simp only[h9,List.length_cons]
theorem rd_ok:∀(l:List B) (i v n:Nat),i≤9→rd i l=.ok v n→(∃r,l=en v++r)∧n=(en v).length∧v<2^(64-7*i)∧(0<i→0<v)
 |[],_,_,_,_,h=>by simp[rd] at h
 |x::l,i,v,n,hi,h=>by
  rw[rd] at h
  split at h
  ·rename_i hx
   split at h
   ·cases h
   ·rename_i hi9
    split at h
    ·rename_i v' n' e
     injection h with h1 h2
     obtain⟨⟨r,hr⟩,hn,hv,h0⟩:=rd_ok l (i+1) v' n' (by omega) e
     have hv0:=h0 (by omega)
     have hxl:=x.isLt
     have hge:¬v<128:=by omega
     have hd:v/128=v':=by omega
     have hm:v%128+128=x.toNat:=by omega
     have he:en v=x::en v':=by rw[en_hi hge,hd,hm,BitVec.ofNat_toNat,BitVec.setWidth_eq]
     have:=two_split i (by omega)
     exact⟨⟨r,by rw[he,hr,List.cons_append]⟩,by rw[he,List.length_cons];omega,by omega,fun _=>by omega⟩
    ·cases h
  ·rename_i hx
   split at h
   ·cases h
   ·rename_i hc
    injection h with h1 h2
    subst h1;subst h2
    have he:en x.toNat=[x]:=by rw[en_lo (by omega),BitVec.ofNat_toNat,BitVec.setWidth_eq]
    refine⟨⟨l,by rw[he];rfl⟩,by rw[he];rfl,?_,fun h0=>?_⟩
    ·rcases Nat.lt_or_ge i 9 with q|q
     ·have:2^7≤2^(64-7*i):=Nat.pow_le_pow_right (by decide) (by omega)
      omega
     ·obtain rfl:i=9:=by omega
      have:(2:Nat)^(64-7*9)=2:=by decide
      omega
    ·omega
theorem rd_er:∀(l:List B) (i:Nat) (e:Int),rd i l=.er e→e=70∨e=73
 |[],_,e,h=>by rw[rd] at h;injection h with h;exact .inr h.symm
 |x::l,i,e,h=>by
  rw[rd] at h
  split at h
  ·split at h
   ·injection h with h;exact .inl h.symm
   ·split at h
    ·cases h
    ·rename_i e' he
     injection h with h
     subst h;exact rd_er l (i+1) _ he
  ·split at h
   ·injection h with h;exact .inl h.symm
   ·cases h
theorem en_pos (n:Nat):0<(en n).length:=by
 by_cases h:n<128
 ·rw[en_lo h];simp
 ·rw[en_hi h];simp
theorem en_len (n:Nat):∀k,0<k→((en n).length≤k↔n<2^(7*k)):=by
 induction n using Nat.strongRecOn with
 |ind n ih=>
  intro k hk
  by_cases h:n<128
  ·rw[en_lo h,List.length_singleton]
   have:2^7≤2^(7*k):=Nat.pow_le_pow_right (by decide) (by omega)
   omega
  ·rw[en_hi h,List.length_cons]
   rcases Nat.lt_or_ge 1 k with q|q
   ·have e:=ih (n/128) (by omega) (k-1) (by omega)
    have:2^(7*k)=128*2^(7*(k-1)):=by rw[show 7*k=7+7*(k-1) by omega,Nat.pow_add]
    omega
   ·obtain rfl:k=1:=by omega
    have:=en_pos (n/128)
    omega
theorem en_ten {n:Nat} (h:n<18446744073709551616):(en n).length≤10:=(en_len n 10 (by decide)).2 (by omega)
theorem rd0_ok {l:List B} {v n:Nat} (h:rd 0 l=.ok v n):(∃r,l=en v++r)∧n=(en v).length∧v<18446744073709551616:=by
 obtain⟨h1,h2,h3,_⟩:=rd_ok l 0 v n (by decide) h
 exact⟨h1,h2,by simpa using h3⟩
theorem rd0_len {l:List B} {v n:Nat} (h:rd 0 l=.ok v n):0<n∧n≤l.length∧n≤10:=by
 obtain⟨⟨r,h1⟩,h2,h3⟩:=rd0_ok h;have:=en_pos v;have:=en_ten h3;rw[h1,List.length_append];omega
theorem en_bits {n L:Nat} (_h0:0<L) (h1:2^(L-1)≤n∨(n=0∧L=1)) (h2:n<2^L):(en n).length=(L+6)/7:=by
 have hk:0<(L+6)/7:=by omega
 have hle:(en n).length≤(L+6)/7:=(en_len n _ hk).2 (Nat.lt_of_lt_of_le h2 (Nat.pow_le_pow_right (by decide) (by omega)))
 rcases Nat.lt_or_ge ((L+6)/7) 2 with q|q
 ·have:=en_pos n;omega
 ·have hge:¬(en n).length≤(L+6)/7-1:=by
   intro hc
   have h3:=(en_len n _ (by omega)).1 hc
   have:2^(7*((L+6)/7-1))≤2^(L-1):=Nat.pow_le_pow_right (by decide) (by omega)
   omega
  omega
end Go.Proofs.YtmmlkfkpblokiaaGreatDoor
namespace Go.Proofs.YtmmlkfkpblokiaaGreatDoor
open Go Go.RowKit Go.Sort
attribute [local go_sem] setCell_drewN alloc_drewN
def bv (a:B):Int:=(a.toNat:Int)
theorem bnd (a:B):0≤bv a∧bv a<256:=by
 have:=a.isLt;unfold bv;omega
def bl (l:List B):List Int:=l.map bv
theorem bl_len (l:List B):(bl l).length=l.length:=by simp[bl]
theorem bl_get (l:List B) (j:Nat):(bl l).getD j 0=bv (l.getD j 0#8):=by
 simp only[bl,List.getD_eq_getElem?_getD,List.getElem?_map]
 cases l[j]? <;>rfl
theorem bl_bnd (l:List B):∀z∈bl l,0≤z∧z<256:=by
 intro z h;obtain⟨b,_,rfl⟩:=List.mem_map.1 h;exact bnd b
theorem brow_at (l:List B) (j:Nat) (hj:j<l.length):(irow .u8 (bl l))[j]? =some (.int .u8 (bv (l.getD j 0#8))):=by
 rw[←bl_get];exact irow_get .u8 _ j (by rw[bl_len];exact hj)
theorem slen_own {W:World} {b:Nat} {T:TypeId} {sz:Nat} {v:Value} {n:Nat} {xs:List Value} (h:W.ownsRow b T sz v n xs):∃ao cap,v=.slice ao n cap:=by
 obtain⟨_,⟨rfl,rfl⟩|⟨g,cap,cur,rfl,_⟩⟩:=h
 ·exact⟨_,_,rfl⟩
 ·exact⟨_,_,rfl⟩
theorem info8:∃i,Tryz.prog.info? 5=some i∧i.zero=some (.int .u8 0)∧i.size=1∧i.bytes=1:=⟨_,rfl,rfl,rfl,rfl⟩
def marks (k:Nat):List Int:=(List.range k).map fun(i:Nat)=>171+((i%60:Nat):Int)
def BysB (W:World) (v:Value) (bs:List B):Prop:=Bys W v (bl bs)∧bs.length≤140737488355000∧(∀a l c,v=.slice a l c→a=none→c=0)
theorem BysB.keep {W W':World} {v:Value} {bs:List B} (h:BysB W v bs) (hb:Below W.heap.size W W'):BysB W' v bs:=⟨h.1.keep hb,h.2⟩
def Own (W:World) (b:Nat) (v:Value) (d:List B):Prop:=W.ownsRow b 5 1 v d.length ((bl d).map (Value.int .u8))
def gb (l:List B) (i:Nat):B:=l.getD i 0#8
theorem trow_cell {W:World} {g:Nat} {l:List B} {T:Array Value} {t:TypeId} (hg:W.heap[g]? =some (.cells ((irow .u8 (bl (l)))++T) t (0,0))) {j:Nat} (hj:j<l.length):W.cell? ⟨g,j,none⟩=some (.int .u8 (bv (gb l j))):=by
 rw[cell_of_row W g j _ t (0,0) hg,Array.getElem?_append_left (by rw[irow_size,bl_len];exact hj)]
 exact brow_at l j hj
theorem own_row {W:World} {b:Nat} {v:Value} {d:List B} (h:Own W b v d) (hd:0<d.length):∃g cap T,v=.slice (some ⟨g,0,none⟩) d.length cap∧b≤g∧W.heap[g]? =some (.cells ((irow .u8 (bl (d)))++T) 5 (0,0))∧d.length≤cap∧cap≤maxLen∧((irow .u8 (bl (d)))++T).size=cap:=by
 obtain⟨hx,⟨rfl,h0⟩|⟨g,cap,cur,rfl,hb,hg,hn,hm,hs,ht⟩⟩:=h
 ·omega
 ·simp only[Nat.mul_one] at hs ht
  have hcur:cur=(irow .u8 (bl (d)))++(cur.toList.drop d.length).toArray:=by
   apply Array.ext'
   rw[Array.toList_append,List.toList_toArray]
   conv=>lhs;rw[←List.take_append_drop d.length cur.toList]
   rw[ht]
   simp[irow]
  refine⟨g,cap,(cur.toList.drop d.length).toArray,rfl,hb,by rw[←hcur];exact hg,hn,hm,by rw[←hcur];exact hs⟩
theorem Own.keep {W V:World} {b:Nat} {v:Value} {d:List B} (h:Own W b v d) (hb:Below W.heap.size W V):Own V b v d:=by
 obtain⟨h1,h2|⟨g,cap,cur,rfl,hb2,hg,h3⟩⟩:=h
 ·exact⟨h1,.inl h2⟩
 ·exact⟨h1,.inr ⟨g,cap,cur,rfl,hb2,Go.Proofs.YtmmlkfkpblokiaaGreatDoor.keep hb hg,h3⟩⟩
theorem Own.bys {W:World} {b:Nat} {v:Value} {d:List B} (h:Own W b v d):Bys W v (bl d):=by
 rcases Nat.eq_zero_or_pos d.length with h0|h0
 ·obtain rfl:d=[]:=List.length_eq_zero_iff.1 h0
  obtain⟨ao,cap,rfl⟩:=slen_own h
  exact⟨ao,cap,rfl,by decide,fun j hj=>by simp[bl] at hj,bl_bnd _⟩
 ·obtain⟨g,cap,T,rfl,_,hg,hn,hm,_⟩:=own_row h h0
  refine⟨some ⟨g,0,none⟩,cap,by rw[bl_len],by rw[bl_len];unfold maxLen at hm;omega,fun j hj=>?_,bl_bnd _⟩
  rw[bl_len] at hj;refine⟨g,0,rfl,lt_of_row hg,?_⟩;rw[Nat.zero_add,bl_get];exact trow_cell hg hj
theorem Own.block {W:World} {b:Nat} {v:Value} {d:List B} (h:Own W b v d) (hv:v≠.slice none 0 0):∃g cap cur,v=.slice (some ⟨g,0,none⟩) d.length cap∧b≤g∧W.heap[g]? =some (.cells cur 5 (0,0))∧d.length≤cap∧cap≤maxLen∧cur.size=cap:=by
 obtain⟨h1,⟨h2,_⟩|⟨g,cap,cur,rfl,hb2,hg,hn,hm,hs,_⟩⟩:=h
 ·exact absurd h2 hv
 ·exact⟨g,cap,cur,rfl,hb2,hg,hn,hm,by rw[hs,Nat.mul_one]⟩
theorem Own.low {W:World} {b:Nat} {v:Value} {d:List B} (h:Own W b v d):∀g l c,v=.slice (some ⟨g,0,none⟩) l c→g<W.heap.size:=by
 intro g l c hv
 obtain⟨h1,⟨rfl,_⟩|⟨g',cap,cur,rfl,hb2,hr,h3⟩⟩:=h
 ·cases hv
 ·cases hv;exact lt_of_row hr
theorem Own.grown {W V:World} {b gx:Nat} {v:Value} {d:List B} (h:Own W b v d) (hg:W.grownBy V (some gx)) (hx:∀g l c,v=.slice (some ⟨g,0,none⟩) l c→g≠gx):Own V b v d:=by
 obtain⟨h1,h2|⟨g,cap,cur,rfl,hb2,hr,h3⟩⟩:=h
 ·exact⟨h1,.inl h2⟩
 ·exact⟨h1,.inr ⟨g,cap,cur,rfl,hb2,(hg.block g (lt_of_row hr) (fun e=>hx g _ _ rfl (Option.some.inj e))).trans hr,h3⟩⟩
theorem own_low {W:World} {b:Nat} {v:Value} {d:List B} (h:Own W b v d):∀k,v.ownBlock=some k→b≤k:=by
 obtain⟨h1,⟨rfl,_⟩|⟨g,cap,cur,rfl,hb,_⟩⟩:=h
 ·intro k hk;cases hk
 ·intro k hk
  have:g=k:=by simpa[Value.ownBlock] using hk
  omega
theorem Own.bysB {W:World} {b:Nat} {v:Value} {d:List B} (h:Own W b v d) (hl:d.length≤140737488355000):BysB W v d:=by
 refine⟨h.bys,hl,fun a l c hv hn=>?_⟩
 obtain⟨h1,⟨rfl,_⟩|⟨g,cap,cur,rfl,hb,_⟩⟩:=h
 ·cases hv;rfl
 ·cases hv;cases hn
theorem own_high {W:World} {b:Nat} {v:Value} {d:List B} (h:Own W b v d):∀k,v.ownBlock=some k→k<W.heap.size:=by
 obtain⟨h1,⟨rfl,_⟩|⟨g,cap,cur,rfl,hb,hg,_⟩⟩:=h
 ·intro k hk;cases hk
 ·intro k hk
  have:g=k:=by simpa[Value.ownBlock] using hk
  have:=lt_of_row hg;omega
theorem Own.grown2 {W V:World} {b:Nat} {v:Value} {d:List B} {ob:Option Nat} (h:Own W b v d) (hg:W.grownBy V ob) (hx:∀k,ob=some k→k<b):Own V b v d:=by
 obtain⟨h1,h2|⟨g,cap,cur,rfl,hb2,hr,h3⟩⟩:=h
 ·exact⟨h1,.inl h2⟩
 ·exact⟨h1,.inr ⟨g,cap,cur,rfl,hb2,(hg.block g (lt_of_row hr) (fun e=>by have:=hx g e.symm;omega)).trans hr,h3⟩⟩
theorem bys_one (W:World) (x:B):BysB (W.alloc (.cells #[.int .u8 (bv x)] 5)) (.slice (some ⟨W.heap.size,0,none⟩) 1 1) [x]:=by
 have hr:(W.alloc (.cells #[.int .u8 (bv x)] 5)).heap[W.heap.size]? =some (.cells #[.int .u8 (bv x)] 5 (0,0)):=hp1_0 W _
 refine⟨⟨some ⟨W.heap.size,0,none⟩,1,rfl,by simp[bl],fun j hj=>⟨W.heap.size,0,rfl,lt_of_row hr,?_⟩,bl_bnd _⟩,by simp,fun a l c h h2=>by cases h;cases h2⟩
 obtain rfl:j=0:=by rw[bl_len,List.length_singleton] at hj;omega
 rw[cell_of_row _ W.heap.size _ _ 5 (0,0) hr];rfl
theorem own_nil (W:World):Own (W.alloc (.cells #[] 5)) W.heap.size (.slice (some ⟨W.heap.size,0,none⟩) 0 0) []:=⟨rfl,.inr ⟨W.heap.size,0,#[],rfl,Nat.le_refl _,hp1_0 _ _,Nat.le_refl _,by decide,rfl,by simp[bl]⟩⟩
section
variable {P : Program} {ops : Array Oper} {Q : Exit → Act → World → Prop} {md : Region.Mode} {S : World → Prop}
theorem wpAnyH_one {k:Nat} {o:Oper} {fuel:Nat} {listed:Array Bool} {a:Act} {w:World} (hr:Region.ready md ops listed=[k]) (hi:ops[k]? =some o) (hw:Region.wanted o (yielded ops a.tmps)=true)
 (h:∀K:Act→World→Prop,(∀a' w',S w'→wpAnyH P md ops Q S fuel (listed.setIfInBounds k true) a' w'→K a' w')→o.wp P a w K Q):wpAnyH P md ops Q S (fuel+1) listed a w:=by
 refine wpAnyH_all hr (by simp) (fun i hi'=>?_)
 obtain rfl:i=k:=by simpa using hi'
 unfold wpOp;simp only[hi,hw,if_true]
 exact .inl (h _ (fun a' w' hS hn=>⟨hS,hn⟩))
theorem wp_append_bytes {o:Oper} {a:Act} {w:World} {K:Act→World→Prop} {Q:Exit→Act→World→Prop} (s x:Operand) (ho:o.op=.call {callee:=.builtin .append,args:=#[s,x],argTypes:=#[24,24]}) (base:Nat) (v:Value) (d:List B) (hs:a.eval s=v) (hO:Own w base v d) (y:Value) (e:List B) (hx:a.eval x=y) (hE:BysB w y e) (hlen:d.length+e.length≤140737488355328) (hbase:base≤w.heap.size)
 (h:∀v' w',Own w' base v' (d++e)→w.grownBy w' v.ownBlock→K (a.put o.dst v') w'):o.wp Tryz.prog a w K Q:=by
 obtain⟨i0,hi,hz0,hz1,hz2⟩:=info8;obtain⟨⟨ao,cap,rfl,_,hc,_⟩,_,hnil⟩:=hE;rw[bl_len] at hx hnil hc
 have hfin:∀v' w',w'.ownsRow base 5 1 v' (d.length+e.length) ((bl d).map (Value.int .u8)++(bl e).map (Value.int .u8))→w.grownBy w' v.ownBlock→K (a.put o.dst v') w':=fun v' w' h1 h2=>h v' w' (by
  unfold Own;rw[List.length_append,bl,List.map_append,List.map_append]
  exact h1) h2
 cases ao with
 |some ad=>
  refine wp_append_own w s x 24 ho base 5 i0 (.int .u8 0) 1 1 Tryz.underlying24 hi hz0 hz1 hz2 rfl (by decide) v d.length ((bl d).map (Value.int .u8)) hs hO ad e.length cap ((bl e).map (Value.int .u8)) hx (by rw[List.length_map,bl_len,Nat.mul_one]) (fun j u hu=>?_) (ints_one .u8 _) (by unfold maxLen;omega) (by omega) hbase (fun v' w' h2 h3 _=>hfin v' w' h2 h3)
  rw[List.getElem?_map] at hu;obtain⟨z,hz,rfl⟩:=Option.map_eq_some_iff.1 hu
  have hj:j<e.length:=by have:=(List.getElem?_eq_some_iff.1 hz).1;rwa [bl_len] at this
  obtain⟨b,off,he,_,hcell⟩:=hc j hj;obtain rfl:=Option.some.inj he;rw[addr_add,hcell,List.getD_eq_getElem?_getD,hz];rfl
 |none=>
  have hn0:e.length=0:=Nat.eq_zero_of_not_pos (fun h0=>by obtain⟨b,off,he,_⟩:=hc 0 h0;cases he)
  obtain rfl:=hnil _ _ _ rfl rfl;have he0:e=[]:=List.length_eq_zero_iff.1 hn0;subst he0;have hrun:=run_append_owned_none (P:=Tryz.prog) w base 24 o.type 5 i0 1 Tryz.underlying24 hi _ d.length _ hO;unfold Oper.wp
  simp[execOp,ho,resolve,invoke,builtin,hs,hx,hrun,Result.andThen]
  have h_:=hfin v w (by simpa[bl,Own] using hO) (World.grownBy.refl _ _)
  exact h_
end
theorem wpList_append_B {ops:Array Oper} {rest:List Oper} {o:Oper} {a:Act} {w:World} {Q:Exit→Act→World→Prop} (hgd:o.guard=none) (s x:Operand) (ho:o.op=.call {callee:=.builtin .append,args:=#[s,x],argTypes:=#[24,24]}) (base:Nat) (v:Value) (d:List B) (hs:a.eval s=v) (hO:Own w base v d) (y:Value) (e:List B) (hx:a.eval x=y) (hE:BysB w y e) (hlen:d.length+e.length≤140737488355328) (hbase:base≤w.heap.size)
 (h:∀v' w',Own w' base v' (d++e)→w.grownBy w' v.ownBlock→wpList Tryz.prog ops Q rest (a.put o.dst v') w'):wpList Tryz.prog ops Q (o::rest) a w:=
 wpList_plain hgd fun _ hK=>wp_append_bytes s x ho base v d hs hO y e hx hE hlen hbase (fun v' w' h1 h2=>hK _ _ (h v' w' h1 h2))
theorem own_down {W:World} {b c:Nat} {v:Value} {d:List B} (h:Own W b v d) (hc:c≤b):Own W c v d:=by
 obtain⟨q1,q2|⟨g1,cap1,cur,hv,hbg,hq⟩⟩:=h
 ·exact⟨q1,.inl q2⟩
 ·exact⟨q1,.inr ⟨g1,cap1,cur,hv,Nat.le_trans hc hbg,hq⟩⟩
theorem a_clone2 (d:List B) (w:World) (v:Value) (hB:BysB w v d):Calls Tryz.prog 141 #[v] w fun e w'=>∃u,e=.returned u∧(Own w' w.heap.size u d∧(∀ad l c,v=.slice (some ad) l c→u≠.slice none 0 0))∧Below w.heap.size w w':=by
 obtain⟨⟨ao,cap,rfl,hl,hc,hz⟩,hlen,hnil⟩:=hB;obtain⟨i0,hi,hz0,hz1,hz2⟩:=info8
 rw[bl_len] at *
 cases ao with
 |none=>
  obtain rfl:=hnil none _ _ rfl rfl
  have h0:d.length=0:=by
   rcases Nat.eq_zero_or_pos d.length with h|h
   ·exact h
   ·obtain⟨b,off,e,_⟩:=hc 0 h
    cases e
  obtain rfl:d=[]:=List.length_eq_zero_iff.1 h0;clear hc
  have heq:∀W:World,(binOp .eql 24 (.slice none 0 0) (.slice none 0 0)).run Tryz.prog W=.ok (.bool true) W:=fun W=>by kernel_rfl
  go_enter Tryz.func141,Tryz.ntmps141
  go_wp2
  go_ret
  exact⟨_,rfl,⟨⟨rfl,.inl ⟨rfl,rfl⟩⟩,fun ad l c h=>by cases h⟩,Below.refl _ _⟩
 |some ad=>
  have heq:∀W:World,(binOp .eql 24 (.slice (some ad) d.length cap) (.slice none 0 0)).run Tryz.prog W=.ok (.bool false) W:=fun W=>by kernel_rfl
  have hcell:∀W:World,Below w.heap.size w W→∀j u,((bl d).map (Value.int .u8))[j]? =some u→W.cell? (ad.add j)=some u:=fun W hW j u hu=>by
   have hj:j<d.length:=by
    have:=(List.getElem?_eq_some_iff.1 hu).1
    simpa[bl_len] using this
   obtain⟨b,off,e',hb,hcl⟩:=hc j hj;obtain rfl:ad=⟨b,off,none⟩:=Option.some.inj e'
   have:u=.int .u8 ((bl d).getD j 0):=by
    have hj':j<(bl d).length:=by rw[bl_len];exact hj
    simp only[List.getElem?_map,List.getElem?_eq_getElem hj',Option.map_some,Option.some.injEq] at hu;rw[←hu,List.getD_eq_getElem?_getD,List.getElem?_eq_getElem hj'];rfl
   rw[this,addr_add];exact(hW.cell hb).trans hcl
  replace hcell:=hide hcell;clear hc
  go_enter Tryz.func141,Tryz.ntmps141
  have hb0:Below w.heap.size w (w.alloc (.cells #[] 5)):=(Below.refl _ _).alloc (Nat.le_refl _) _
  have hown0:(w.alloc (.cells #[] 5)).ownsRow w.heap.size 5 1 (.slice (some ⟨w.heap.size,0,none⟩) 0 0) 0 []:=⟨rfl,.inr ⟨w.heap.size,0,#[],rfl,Nat.le_refl _,hp1_0 w _,Nat.le_refl _,by decide,rfl,rfl⟩⟩
  go_wp2_with (at_builtin;refine wpList_append_own _ rfl (.tmp 5) (.tmp 6) 24 rfl w.heap.size 5 i0 (.int .u8 0) 1 1 Tryz.underlying24 hi hz0 hz1 hz2 rfl (by decide) (.slice (some ⟨w.heap.size,0,none⟩) 0 0) 0 [] rfl hown0 ad d.length cap ((bl d).map (Value.int .u8)) rfl (by simp[bl_len]) (hcell.out _ hb0) (ints_one .u8 _) (by unfold maxLen;omega) (by omega) hb0.size ?_)
  intro v' w1 hown2 hgrow hnn;have hn2:Hid (v'≠.slice none 0 0):=hide hnn;clear hnn
  have hw:=hb0.grown hgrow hb0.size (fun k h=>(hown0.lt k h).1)
  clear hgrow;obtain⟨ao',cap',rfl⟩:=slen_own hown2
  go_wp2
  go_ret
  refine⟨_,rfl,⟨?_,fun _ _ _ _=>hn2.out⟩,hw⟩
  unfold Own
  simpa using hown2
theorem a_clone (d:List B) (w:World) (v:Value) (hB:BysB w v d):Calls Tryz.prog 141 #[v] w fun e w'=>∃u,e=.returned u∧Own w' w.heap.size u d∧Below w.heap.size w w':=(a_clone2 d w v hB).mono fun _ _ ⟨u,h1,h2,h3⟩=>⟨u,h1,h2.1,h3⟩
theorem bv_of {z:Int} (h:0≤z∧z<256):∃x:B,z=bv x:=by
 obtain⟨n,rfl⟩:=Int.eq_ofNat_of_zero_le h.1
 exact⟨BitVec.ofNat 8 n,by unfold bv;rw[BitVec.toNat_ofNat];omega⟩
theorem bl_of:∀(l:List Int),(∀z∈l,0≤z∧z<256)→∃bs:List B,l=bl bs∧bs.length=l.length
 |[],_=>⟨[],rfl,rfl⟩
 |z::r,h=>by
  obtain⟨x,rfl⟩:=bv_of (h z (by simp))
  obtain⟨bs,rfl,e⟩:=bl_of r (fun y hy=>h y (by simp[hy]))
  exact⟨x::bs,rfl,by simp[e]⟩
theorem len8_ok:∀y:Fin 256,0<y.val→0<(Go.Lib.len8 (y.val:Int)).toNat∧(Go.Lib.len8 (y.val:Int)).toNat≤8∧2^((Go.Lib.len8 (y.val:Int)).toNat-1)≤y.val∧y.val<2^(Go.Lib.len8 (y.val:Int)).toNat∧Go.Lib.len8 (y.val:Int)=((Go.Lib.len8 (y.val:Int)).toNat:Int):=by decide+kernel
theorem len8_at (y:Nat) (h:y<256) (h0:0<y):∃t:Nat,0<t∧t≤8∧2^(t-1)≤y∧y<2^t∧Go.Lib.len8 (y:Int)=(t:Int):=by
 obtain⟨h1,h2,h3,h4,h5⟩:=len8_ok ⟨y,h⟩ h0;exact⟨_,h1,h2,h3,h4,h5⟩
theorem len_up {x y s t:Nat} (hy:y=x/2^s) (h1:2^(t-1)≤y) (h2:y<2^t) (h0:0<t):2^(s+t-1)≤x∧x<2^(s+t):=by
 have hp:0<2^s:=Nat.pow_pos (by decide)
 subst hy;refine⟨?_,?_⟩
 ·rw[show s+t-1=(t-1)+s by omega,Nat.pow_add]
  exact(Nat.le_div_iff_mul_le hp).1 h1
 ·rw[Nat.add_comm,Nat.pow_add]
  exact(Nat.div_lt_iff_lt_mul hp).1 h2
theorem a_len64_0 (x:Nat) (h0:1≤x) (hx:x<256):∃L:Nat,0<L∧L≤64∧2^(L-1)≤x∧x<2^L∧Gives 110 #[.int .u64 (x:Int)] (.int .i64 (L:Int)):=by
 obtain⟨t,h1,h2,h3,h4,h5⟩:=len8_at (x/2^0) (by omega) (by omega)
 obtain⟨h6,h7⟩:=len_up (x:=x) rfl h3 h4 h1
 refine⟨0+t,by omega,by omega,h6,h7,fun w=>?_⟩
 clear h3 h4 h6 h7
 have d1:decide ((x:Int)≥4294967296)=false:=by simp;omega
 have d2:decide ((x:Int)≥65536)=false:=by simp;omega
 have d3:decide ((x:Int)≥256)=false:=by simp;omega
 have e1:(x:Int)=((x/2^0:Nat):Int):=by omega
 have hix:∀W:World,(Instr.index 9 (.string Go.Lib.len8tab) (.int .u8 ((x:Int)))).run Tryz.prog W=.ok (.int .u8 (t:Int)) W:=fun W=>by
  rw[e1,Go.Lib.run_index_len8tab W _ _ _ Tryz.underlying9 (by omega) (by omega),h5]
 clear e1 h5
 go_enter Tryz.func110,Tryz.ntmps110
 go_wp2
 go_ret;refine⟨?_,Below.refl _ _⟩;rw[Nat.zero_add];rfl
theorem a_len64_8 (x:Nat) (h0:256≤x) (hx:x<65536):∃L:Nat,0<L∧L≤64∧2^(L-1)≤x∧x<2^L∧Gives 110 #[.int .u64 (x:Int)] (.int .i64 (L:Int)):=by
 obtain⟨t,h1,h2,h3,h4,h5⟩:=len8_at (x/2^8) (by omega) (by omega)
 obtain⟨h6,h7⟩:=len_up (x:=x) rfl h3 h4 h1
 refine⟨8+t,by omega,by omega,h6,h7,fun w=>?_⟩
 clear h3 h4 h6 h7
 have d1:decide ((x:Int)≥4294967296)=false:=by simp;omega
 have d2:decide ((x:Int)≥65536)=false:=by simp;omega
 have d3:decide ((x:Int)≥256)=true:=by simp;omega
 have e1:((x:Int)/256)=((x/2^8:Nat):Int):=by omega
 have hix:∀W:World,(Instr.index 9 (.string Go.Lib.len8tab) (.int .u8 (((x:Int)/256)))).run Tryz.prog W=.ok (.int .u8 (t:Int)) W:=fun W=>by
  rw[e1,Go.Lib.run_index_len8tab W _ _ _ Tryz.underlying9 (by omega) (by omega),h5]
 clear e1 h5
 go_enter Tryz.func110,Tryz.ntmps110
 go_wp2
 go_ret;refine⟨?_,Below.refl _ _⟩
 congr 2
theorem a_len64_16 (x:Nat) (h0:65536≤x) (hx:x<16777216):∃L:Nat,0<L∧L≤64∧2^(L-1)≤x∧x<2^L∧Gives 110 #[.int .u64 (x:Int)] (.int .i64 (L:Int)):=by
 obtain⟨t,h1,h2,h3,h4,h5⟩:=len8_at (x/2^16) (by omega) (by omega)
 obtain⟨h6,h7⟩:=len_up (x:=x) rfl h3 h4 h1
 refine⟨16+t,by omega,by omega,h6,h7,fun w=>?_⟩
 clear h3 h4 h6 h7
 have d1:decide ((x:Int)≥4294967296)=false:=by simp;omega
 have d2:decide ((x:Int)≥65536)=true:=by simp;omega
 have d3:decide (((x:Int)/65536)≥256)=false:=by simp;omega
 have e1:((x:Int)/65536)=((x/2^16:Nat):Int):=by omega
 have hix:∀W:World,(Instr.index 9 (.string Go.Lib.len8tab) (.int .u8 (((x:Int)/65536)))).run Tryz.prog W=.ok (.int .u8 (t:Int)) W:=fun W=>by
  rw[e1,Go.Lib.run_index_len8tab W _ _ _ Tryz.underlying9 (by omega) (by omega),h5]
 clear e1 h5
 go_enter Tryz.func110,Tryz.ntmps110
 go_wp2
 go_ret;refine⟨?_,Below.refl _ _⟩
 congr 2
theorem a_len64_24 (x:Nat) (h0:16777216≤x) (hx:x<4294967296):∃L:Nat,0<L∧L≤64∧2^(L-1)≤x∧x<2^L∧Gives 110 #[.int .u64 (x:Int)] (.int .i64 (L:Int)):=by
 obtain⟨t,h1,h2,h3,h4,h5⟩:=len8_at (x/2^24) (by omega) (by omega)
 obtain⟨h6,h7⟩:=len_up (x:=x) rfl h3 h4 h1
 refine⟨24+t,by omega,by omega,h6,h7,fun w=>?_⟩
 clear h3 h4 h6 h7
 have d1:decide ((x:Int)≥4294967296)=false:=by simp;omega
 have d2:decide ((x:Int)≥65536)=true:=by simp;omega
 have d3:decide (((x:Int)/65536)≥256)=true:=by simp;omega
 have e1:(((x:Int)/65536)/256)=((x/2^24:Nat):Int):=by omega
 have hix:∀W:World,(Instr.index 9 (.string Go.Lib.len8tab) (.int .u8 ((((x:Int)/65536)/256)))).run Tryz.prog W=.ok (.int .u8 (t:Int)) W:=fun W=>by
  rw[e1,Go.Lib.run_index_len8tab W _ _ _ Tryz.underlying9 (by omega) (by omega),h5]
 clear e1 h5
 go_enter Tryz.func110,Tryz.ntmps110
 go_wp2
 go_ret;refine⟨?_,Below.refl _ _⟩
 congr 2
theorem a_len64_32 (x:Nat) (h0:4294967296≤x) (hx:x<1099511627776):∃L:Nat,0<L∧L≤64∧2^(L-1)≤x∧x<2^L∧Gives 110 #[.int .u64 (x:Int)] (.int .i64 (L:Int)):=by
 obtain⟨t,h1,h2,h3,h4,h5⟩:=len8_at (x/2^32) (by omega) (by omega)
 obtain⟨h6,h7⟩:=len_up (x:=x) rfl h3 h4 h1
 refine⟨32+t,by omega,by omega,h6,h7,fun w=>?_⟩
 clear h3 h4 h6 h7
 have d1:decide ((x:Int)≥4294967296)=true:=by simp;omega
 have d2:decide (((x:Int)/4294967296)≥65536)=false:=by simp;omega
 have d3:decide (((x:Int)/4294967296)≥256)=false:=by simp;omega
 have e1:((x:Int)/4294967296)=((x/2^32:Nat):Int):=by omega
 have hix:∀W:World,(Instr.index 9 (.string Go.Lib.len8tab) (.int .u8 (((x:Int)/4294967296)))).run Tryz.prog W=.ok (.int .u8 (t:Int)) W:=fun W=>by
  rw[e1,Go.Lib.run_index_len8tab W _ _ _ Tryz.underlying9 (by omega) (by omega),h5]
 clear e1 h5
 go_enter Tryz.func110,Tryz.ntmps110
 go_wp2
 go_ret;refine⟨?_,Below.refl _ _⟩
 congr 2
theorem a_len64_40 (x:Nat) (h0:1099511627776≤x) (hx:x<281474976710656):∃L:Nat,0<L∧L≤64∧2^(L-1)≤x∧x<2^L∧Gives 110 #[.int .u64 (x:Int)] (.int .i64 (L:Int)):=by
 obtain⟨t,h1,h2,h3,h4,h5⟩:=len8_at (x/2^40) (by omega) (by omega)
 obtain⟨h6,h7⟩:=len_up (x:=x) rfl h3 h4 h1
 refine⟨40+t,by omega,by omega,h6,h7,fun w=>?_⟩
 clear h3 h4 h6 h7
 have d1:decide ((x:Int)≥4294967296)=true:=by simp;omega
 have d2:decide (((x:Int)/4294967296)≥65536)=false:=by simp;omega
 have d3:decide (((x:Int)/4294967296)≥256)=true:=by simp;omega
 have e1:(((x:Int)/4294967296)/256)=((x/2^40:Nat):Int):=by omega
 have hix:∀W:World,(Instr.index 9 (.string Go.Lib.len8tab) (.int .u8 ((((x:Int)/4294967296)/256)))).run Tryz.prog W=.ok (.int .u8 (t:Int)) W:=fun W=>by
  rw[e1,Go.Lib.run_index_len8tab W _ _ _ Tryz.underlying9 (by omega) (by omega),h5]
 clear e1 h5
 go_enter Tryz.func110,Tryz.ntmps110
 go_wp2
 go_ret;refine⟨?_,Below.refl _ _⟩
 congr 2
theorem a_len64_48 (x:Nat) (h0:281474976710656≤x) (hx:x<72057594037927936):∃L:Nat,0<L∧L≤64∧2^(L-1)≤x∧x<2^L∧Gives 110 #[.int .u64 (x:Int)] (.int .i64 (L:Int)):=by
 obtain⟨t,h1,h2,h3,h4,h5⟩:=len8_at (x/2^48) (by omega) (by omega)
 obtain⟨h6,h7⟩:=len_up (x:=x) rfl h3 h4 h1
 refine⟨48+t,by omega,by omega,h6,h7,fun w=>?_⟩
 clear h3 h4 h6 h7
 have d1:decide ((x:Int)≥4294967296)=true:=by simp;omega
 have d2:decide (((x:Int)/4294967296)≥65536)=true:=by simp;omega
 have d3:decide ((((x:Int)/4294967296)/65536)≥256)=false:=by simp;omega
 have e1:(((x:Int)/4294967296)/65536)=((x/2^48:Nat):Int):=by omega
 have hix:∀W:World,(Instr.index 9 (.string Go.Lib.len8tab) (.int .u8 ((((x:Int)/4294967296)/65536)))).run Tryz.prog W=.ok (.int .u8 (t:Int)) W:=fun W=>by
  rw[e1,Go.Lib.run_index_len8tab W _ _ _ Tryz.underlying9 (by omega) (by omega),h5]
 clear e1 h5
 go_enter Tryz.func110,Tryz.ntmps110
 go_wp2
 go_ret;refine⟨?_,Below.refl _ _⟩
 congr 2
theorem a_len64_56 (x:Nat) (h0:72057594037927936≤x) (hx:x<18446744073709551616):∃L:Nat,0<L∧L≤64∧2^(L-1)≤x∧x<2^L∧Gives 110 #[.int .u64 (x:Int)] (.int .i64 (L:Int)):=by
 obtain⟨t,h1,h2,h3,h4,h5⟩:=len8_at (x/2^56) (by omega) (by omega)
 obtain⟨h6,h7⟩:=len_up (x:=x) rfl h3 h4 h1
 refine⟨56+t,by omega,by omega,h6,h7,fun w=>?_⟩
 clear h3 h4 h6 h7
 have d1:decide ((x:Int)≥4294967296)=true:=by simp;omega
 have d2:decide (((x:Int)/4294967296)≥65536)=true:=by simp;omega
 have d3:decide ((((x:Int)/4294967296)/65536)≥256)=true:=by simp;omega
 have e1:((((x:Int)/4294967296)/65536)/256)=((x/2^56:Nat):Int):=by omega
 have hix:∀W:World,(Instr.index 9 (.string Go.Lib.len8tab) (.int .u8 (((((x:Int)/4294967296)/65536)/256)))).run Tryz.prog W=.ok (.int .u8 (t:Int)) W:=fun W=>by
  rw[e1,Go.Lib.run_index_len8tab W _ _ _ Tryz.underlying9 (by omega) (by omega),h5]
 clear e1 h5
 go_enter Tryz.func110,Tryz.ntmps110
 go_wp2
 go_ret;refine⟨?_,Below.refl _ _⟩
 congr 2
theorem a_len64 (x:Nat) (h0:0<x) (hx:x<18446744073709551616):∃L:Nat,0<L∧L≤64∧2^(L-1)≤x∧x<2^L∧Gives 110 #[.int .u64 (x:Int)] (.int .i64 (L:Int)):=by
 rcases(by omega:x<256∨(256≤x∧x<65536)∨(65536≤x∧x<16777216)∨(16777216≤x∧x<4294967296)∨(4294967296≤x∧x<1099511627776)∨(1099511627776≤x∧x<281474976710656)∨(281474976710656≤x∧x<72057594037927936)∨(72057594037927936≤x∧x<18446744073709551616)) with h|h|h|h|h|h|h|h
 ·exact a_len64_0 x (by omega) h
 ·exact a_len64_8 x h.1 h.2
 ·exact a_len64_16 x h.1 h.2
 ·exact a_len64_24 x h.1 h.2
 ·exact a_len64_32 x h.1 h.2
 ·exact a_len64_40 x h.1 h.2
 ·exact a_len64_48 x h.1 h.2
 ·exact a_len64_56 x h.1 h.2
end Go.Proofs.YtmmlkfkpblokiaaGreatDoor
