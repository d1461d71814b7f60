import Derived.Test.YtmmlkfkpblokiaaGreatDoorQzWq
import Derived.Test.YtmmlkfkpblokiaaGreatDoorQzUx
import Derived.Recover
import Derived.Defers
set_option maxRecDepth 100000
set_option maxHeartbeats 16000000
namespace Go.Proofs.YtmmlkfkpblokiaaGreatDoor
open Go Go.RowKit Go.Sort
attribute [local go_sem] setCell_drewN alloc_drewN
def rdv (no wt:Int) (k1 k2 k3:FuncId) (a1 a2 a3:Array Value):Array Value:=#[.int .i64 no,.int .i64 wt,.func (.func k1) #[] a1,.func (.func k2) #[] a2,.func (.func k3) #[] a3]
def BxS (W:World) (S:Nat→Prop) (g:Nat) (c:Array Value):Prop:=S g∧Bx W g c
def PlC (W:World) (S:Nat→Prop) (no wt:Int) (k:FuncId) (cs row:Array Value):Prop:=∃g0 g1 g2 g4 gs,row=rdv no wt 114 115 116 #[ptr g4,ptr g0,ptr g2] #[ptr g0,ptr g1] #[ptr g2]∧BxS W S g0 #[.int .i64 no]∧BxS W S g1 #[.int .i64 wt]∧BxS W S g2 #[.func (.func k) #[] #[ptr gs]]∧BxS W S g4 #[.bool (wt==2)]∧BxS W S gs cs
def InC (W:World) (S:Nat→Prop) (no:Int) (x:Value) (row:Array Value):Prop:=∃g0 g1,row=rdv no 2 123 124 125 #[ptr g1] #[ptr g0,ptr g1] #[ptr g1]∧BxS W S g0 #[.int .i64 no]∧BxS W S g1 #[x]
def LiC (W:World) (S:Nat→Prop) (no l m:Int) (x:Value) (row:Array Value):Prop:=∃g0 g1 g2 y,row=rdv no 2 127 129 131 #[ptr g0,ptr g1,ptr g2] #[ptr g0,ptr g2] #[ptr g1,ptr g2]∧BxS W S g0 #[.int .i64 no]∧BxS W S g1 #[.int .u64 l,.int .u64 m,y]∧BxS W S g2 #[x]
def SlC (W:World) (S:Nat→Prop) (t:Slt) (x:Value) (row:Array Value):Prop:=
 (t.kind=1∧PlC W S t.no 0 90 #[.int .i64 0,.int .u64 (t.least:Int),.int .u64 (t.most:Int)] row)∨
 (t.kind=2∧PlC W S t.no 5 90 #[.int .i64 5,.int .u64 (t.least:Int),.int .u64 (t.most:Int)] row)∨
 (t.kind=3∧PlC W S t.no 1 90 #[.int .i64 1,.int .u64 (t.least:Int),.int .u64 (t.most:Int)] row)∨
 (t.kind=4∧PlC W S t.no 0 90 #[.int .i64 0,.int .u64 0,.int .u64 1] row)∨
 ((t.kind=5∨t.kind=6)∧PlC W S t.no 2 94 #[.int .u64 (t.least:Int),.int .u64 (t.most:Int),.bool (t.kind==6)] row)∨
 (t.kind=7∧PlC W S t.no 1 92 #[.float .f64 (floatOfInt .f64 (t.most:Int))] row)∨
 (t.kind=8∧InC W S t.no x row)∨
 (t.kind=9∧LiC W S t.no (t.least:Int) (t.most:Int) x row)
inductive RdL (W:World) (S:Nat→Prop):Value→List Slt→Prop
 |mk (ao:Option Addr) (cap:Nat) (ts:List Slt) (rows:Nat→Array Value) (us:Nat→Value) (hl:ts.length≤16) (hc:ts.length≤cap) (hn:ao=none→cap=0)
  (h:∀i,i<ts.length→∃b,ao=some ⟨b,0,none⟩∧b<W.heap.size∧S b∧W.rangeAt b (i*5) (rows i).toList∧SlC W S (gs ts i) (us i) (rows i))
  (hs:∀i,i<ts.length→nst (gs ts i)→RdL W S (us i) (gs ts i).sub):RdL W S (.slice ao ts.length cap) ts
theorem Bx.same {W V:World} {g:Nat} {c:Array Value} (h:Bx W g c) (hb:V.heap[g]? =W.heap[g]?):Bx V g c:=by
 obtain⟨T,h⟩:=h;exact⟨T,hb.trans h⟩
theorem Bx.lt {W:World} {g:Nat} {c:Array Value} (h:Bx W g c):g<W.heap.size:=by
 obtain⟨T,h⟩:=h;exact lt_of_row h
def Sty (W V:World) (S T:Nat→Prop):Prop:=W.heap.size≤V.heap.size∧∀b,b<W.heap.size→S b→V.heap[b]? =W.heap[b]?∧T b
theorem BxS.keep {W V:World} {S T:Nat→Prop} {g:Nat} {c:Array Value} (h:BxS W S g c) (hk:Sty W V S T):BxS V T g c:=⟨(hk.2 g h.2.lt h.1).2,h.2.same (hk.2 g h.2.lt h.1).1⟩
theorem PlC.keep {W V:World} {S T:Nat→Prop} {no wt:Int} {k:FuncId} {cs row:Array Value} (h:PlC W S no wt k cs row) (hk:Sty W V S T):PlC V T no wt k cs row:=by
 obtain⟨g0,g1,g2,g4,gs,e,h0,h1,h2,h4,h5⟩:=h;exact⟨g0,g1,g2,g4,gs,e,h0.keep hk,h1.keep hk,h2.keep hk,h4.keep hk,h5.keep hk⟩
theorem InC.keep {W V:World} {S T:Nat→Prop} {no:Int} {x:Value} {row:Array Value} (h:InC W S no x row) (hk:Sty W V S T):InC V T no x row:=by
 obtain⟨g0,g1,e,h0,h1⟩:=h;exact⟨g0,g1,e,h0.keep hk,h1.keep hk⟩
theorem LiC.keep {W V:World} {S T:Nat→Prop} {no l m:Int} {x:Value} {row:Array Value} (h:LiC W S no l m x row) (hk:Sty W V S T):LiC V T no l m x row:=by
 obtain⟨g0,g1,g2,y,e,h0,h1,h2⟩:=h;exact⟨g0,g1,g2,y,e,h0.keep hk,h1.keep hk,h2.keep hk⟩
theorem SlC.keep {W V:World} {S T:Nat→Prop} {t:Slt} {x:Value} {row:Array Value} (h:SlC W S t x row) (hk:Sty W V S T):SlC V T t x row:=by
 rcases h with⟨e,h⟩|⟨e,h⟩|⟨e,h⟩|⟨e,h⟩|⟨e,h⟩|⟨e,h⟩|⟨e,h⟩|⟨e,h⟩
 ·exact .inl ⟨e,h.keep hk⟩
 ·exact .inr (.inl ⟨e,h.keep hk⟩)
 ·exact .inr (.inr (.inl ⟨e,h.keep hk⟩))
 ·exact .inr (.inr (.inr (.inl ⟨e,h.keep hk⟩)))
 ·exact .inr (.inr (.inr (.inr (.inl ⟨e,h.keep hk⟩))))
 ·exact .inr (.inr (.inr (.inr (.inr (.inl ⟨e,h.keep hk⟩)))))
 ·exact .inr (.inr (.inr (.inr (.inr (.inr (.inl ⟨e,h.keep hk⟩))))))
 ·exact .inr (.inr (.inr (.inr (.inr (.inr (.inr ⟨e,h.keep hk⟩))))))
theorem RdL.keep {W V:World} {S T:Nat→Prop} {v:Value} {ts:List Slt} (h:RdL W S v ts) (hk:Sty W V S T):RdL V T v ts:=by
 induction h with
 |mk ao cap ts rows us hl hc hn h hs ih=>
  refine .mk ao cap ts rows us hl hc hn (fun i hi=>?_) ih
  obtain⟨b,h1,h2,h3,h4,h5⟩:=h i hi;exact⟨b,h1,Nat.lt_of_lt_of_le h2 hk.1,(hk.2 b h2 h3).2,range_same h4 (hk.2 b h2 h3).1,h5.keep hk⟩
theorem Sty.below {W V:World} {S:Nat→Prop} (h:Below W.heap.size W V):Sty W V S S:=⟨h.size,fun b hb hS=>⟨h.block b hb,hS⟩⟩
theorem RdL.form {W:World} {S:Nat→Prop} {v:Value} {ts:List Slt} (h:RdL W S v ts):∃ao cap,v=.slice ao ts.length cap:=by
 cases h with
 |mk ao cap ts rows us hl hc hn h hs=>exact⟨ao,cap,rfl⟩
theorem rdv_form {W:World} {S:Nat→Prop} {t:Slt} {x:Value} {row:Array Value} (h:SlC W S t x row):∃wt k1 k2 k3 a1 a2 a3,row=rdv t.no wt k1 k2 k3 a1 a2 a3:=by
 rcases h with⟨e,h⟩|⟨e,h⟩|⟨e,h⟩|⟨e,h⟩|⟨e,h⟩|⟨e,h⟩|⟨e,h⟩|⟨e,h⟩
 all_goals first
  |(obtain⟨g0,g1,g2,g4,gs,e,_⟩:=h;exact⟨_,_,_,_,_,_,_,e⟩)
  |(obtain⟨g0,g1,e,_⟩:=h;exact⟨_,_,_,_,_,_,_,e⟩)
  |(obtain⟨g0,g1,g2,y,e,_⟩:=h;exact⟨_,_,_,_,_,_,_,e⟩)
theorem Bx.row {w4:World} {g n:Nat} {cs c:Array Value} (h:Bx w4 n c) (hne:n≠g):Bx (w4.setRow g cs) n c:=h.same (setRow_other w4 g n cs hne)
theorem a_ready_any {t:Slt} {u:Value} (hfit:sfit t=true) (hFl:Flt t u) (w:World) (hu:nst t→∃so sn sc,u=.slice so sn sc)
 (hC:nst t→∀V,Below w.heap.size w V→Calls Tryz.prog 43 #[u] V fun e w'=>∃v,e=.returned v∧(∃xo xn xc,v=.slice xo xn xc)∧Below V.heap.size V w'∧RdL w' (fun b=>V.heap.size≤b) v t.sub):
 Calls Tryz.prog 70 #[.agg #[.int .i64 t.no,shp t u]] w fun e w'=>∃row x,e=.returned (.agg row)∧Below w.heap.size w w'∧SlC w' (fun b=>w.heap.size≤b) t x row∧(nst t→RdL w' (fun b=>w.heap.size≤b) x t.sub):=by
 have hc:=fit_cases (show fitN t.kind (t.least:Int) (t.most:Int) t.sub.length=true from hfit)
 have key:∀x,shp t u=x→(Calls Tryz.prog 70 #[.agg #[.int .i64 t.no,x]] w fun e w'=>∃row x,e=.returned (.agg row)∧Below w.heap.size w w'∧SlC w' (fun b=>w.heap.size≤b) t x row∧(nst t→RdL w' (fun b=>w.heap.size≤b) x t.sub))→(Calls Tryz.prog 70 #[.agg #[.int .i64 t.no,shp t u]] w fun e w'=>∃row x,e=.returned (.agg row)∧Below w.heap.size w w'∧SlC w' (fun b=>w.heap.size≤b) t x row∧(nst t→RdL w' (fun b=>w.heap.size≤b) x t.sub)):=fun x e h=>by rw[e];exact h
 have nn:∀k,t.kind=k→k≠8→k≠9→∀P:Prop,nst t→P:=fun k e h8 h9 P hn=>by
  rcases hn with q|q<;>omega
 have le:∀k:Nat,w.heap.size≤w.heap.size+k:=fun k=>Nat.le_add_right _ _
 rcases hc with⟨hk,_⟩|⟨hk,_⟩|⟨hk,_⟩|hk|⟨hk,_⟩|hk|hk|⟨hk,_⟩
 ·exact key _ (by unfold shp;rw[hk];rfl) ((a_ready_num _ _ _ _ w).mono fun e w' ⟨h1,h2,h3,h4,h5,h6,h7⟩=>⟨_,undef,h1,h2,.inl ⟨hk,_,_,_,_,_,rfl,⟨by omega,h4⟩,⟨by omega,h5⟩,⟨by omega,h6⟩,⟨by omega,h7⟩,⟨by omega,h3⟩⟩,nn _ hk (by decide) (by decide) _⟩)
 ·exact key _ (by unfold shp;rw[hk];rfl) ((a_ready_num _ _ _ _ w).mono fun e w' ⟨h1,h2,h3,h4,h5,h6,h7⟩=>⟨_,undef,h1,h2,.inr (.inl ⟨hk,_,_,_,_,_,rfl,⟨by omega,h4⟩,⟨by omega,h5⟩,⟨by omega,h6⟩,⟨by omega,h7⟩,⟨by omega,h3⟩⟩),nn _ hk (by decide) (by decide) _⟩)
 ·exact key _ (by unfold shp;rw[hk];rfl) ((a_ready_num _ _ _ _ w).mono fun e w' ⟨h1,h2,h3,h4,h5,h6,h7⟩=>⟨_,undef,h1,h2,.inr (.inr (.inl ⟨hk,_,_,_,_,_,rfl,⟨by omega,h4⟩,⟨by omega,h5⟩,⟨by omega,h6⟩,⟨by omega,h7⟩,⟨by omega,h3⟩⟩)),nn _ hk (by decide) (by decide) _⟩)
 ·exact key _ (by unfold shp;rw[hk];rfl) ((a_ready_num _ _ _ _ w).mono fun e w' ⟨h1,h2,h3,h4,h5,h6,h7⟩=>⟨_,undef,h1,h2,.inr (.inr (.inr (.inl ⟨hk,_,_,_,_,_,rfl,⟨by omega,h4⟩,⟨by omega,h5⟩,⟨by omega,h6⟩,⟨by omega,h7⟩,⟨by omega,h3⟩⟩))),nn _ hk (by decide) (by decide) _⟩)
 ·rcases hk with hk|hk
  ·exact key (.iface 186 (.agg #[.int .u64 (t.least:Int),.int .u64 (t.most:Int),.bool false])) (by unfold shp;rw[hk];rfl) ((a_ready_oct t.no (t.least:Int) (t.most:Int) false w).mono fun e w' ⟨h1,h2,h3,h4,h5,h6,h7⟩=>⟨_,undef,h1,h2,.inr (.inr (.inr (.inr (.inl ⟨.inl hk,_,_,_,_,_,rfl,⟨by omega,h4⟩,⟨by omega,h5⟩,⟨by omega,h6⟩,⟨by omega,h7⟩,⟨by omega,by rw[hk];exact h3⟩⟩)))),nn _ hk (by decide) (by decide) _⟩)
  ·exact key (.iface 186 (.agg #[.int .u64 (t.least:Int),.int .u64 (t.most:Int),.bool true])) (by unfold shp;rw[hk];rfl) ((a_ready_oct t.no (t.least:Int) (t.most:Int) true w).mono fun e w' ⟨h1,h2,h3,h4,h5,h6,h7⟩=>⟨_,undef,h1,h2,.inr (.inr (.inr (.inr (.inl ⟨.inr hk,_,_,_,_,_,rfl,⟨by omega,h4⟩,⟨by omega,h5⟩,⟨by omega,h6⟩,⟨by omega,h7⟩,⟨by omega,by rw[hk];exact h3⟩⟩)))),nn _ hk (by decide) (by decide) _⟩)
 ·have hu7:=hFl hk
  subst hu7
  exact key _ (by unfold shp;rw[hk];rfl) ((a_ready_flt _ _ w).mono fun e w' ⟨h1,h2,h3,h4,h5,h6,h7⟩=>⟨_,undef,h1,h2,.inr (.inr (.inr (.inr (.inr (.inl ⟨hk,_,_,_,_,_,rfl,⟨by omega,h4⟩,⟨by omega,h5⟩,⟨by omega,h6⟩,⟨by omega,h7⟩,⟨by omega,h3⟩⟩))))),nn _ hk (by decide) (by decide) _⟩)
 ·obtain⟨so,sn,sc,rfl⟩:=hu (.inl hk)
  refine key _ (by unfold shp;rw[hk];rfl) ((a_ready_msg (fun v V=>RdL V (fun b=>w.heap.size+1+1≤b) v t.sub) (fun v V V' h hb=>h.keep (Sty.below hb)) _ so sn sc w (fun V hV hz=>(hC (.inl hk) V hV).mono fun e w' ⟨v,h1,h2,h3,h4⟩=>⟨v,h1,h2,h3,h4.keep ⟨Nat.le_refl _,fun b _ hb=>⟨rfl,Nat.le_trans hz hb⟩⟩⟩)).mono fun e w' ⟨n,x,w4,h0,h1,h2,h3,h4,h5,h6,h7⟩=>?_)
  refine⟨_,x,h1,h2,.inr (.inr (.inr (.inr (.inr (.inr (.inl ⟨hk,_,_,rfl,⟨by omega,h3⟩,⟨by omega,h4⟩⟩)))))),fun _=>?_⟩
  rw[h7]
  exact h5.keep ⟨by simp,fun b _ hb=>⟨setRow_other _ _ _ _ (by omega),by omega⟩⟩
 ·obtain⟨so,sn,sc,rfl⟩:=hu (.inr hk)
  refine key _ (by unfold shp;rw[hk];rfl) ((a_ready_lst (fun v V=>RdL V (fun b=>w.heap.size+1+1≤b) v t.sub) (fun v V V' h hb=>h.keep (Sty.below hb)) t.no (t.least:Int) (t.most:Int) so sn sc w (fun V hV hz=>(hC (.inr hk) V hV).mono fun e w' ⟨v,h1,h2,h3,h4⟩=>⟨v,h1,h2,h3,h4.keep ⟨Nat.le_refl _,fun b _ hb=>⟨rfl,Nat.le_trans hz hb⟩⟩⟩)).mono fun e w' ⟨n,x,w4,h0,h1,h2,h3,h3b,h4,h5,h6,h7⟩=>?_)
  refine⟨_,x,h1,h2,.inr (.inr (.inr (.inr (.inr (.inr (.inr ⟨hk,_,_,_,_,rfl,⟨by omega,h3⟩,⟨by omega,h3b⟩,⟨by omega,h4⟩⟩)))))),fun _=>?_⟩
  rw[h7]
  exact h5.keep ⟨by simp,fun b _ hb=>⟨setRow_other _ _ _ _ (by omega),by omega⟩⟩
theorem infoStI:∃i,Tryz.prog.info? 114=some i∧i.zero=some (.agg #[.int .i64 0,.int .i64 0,.nilFunc,.nilFunc,.nilFunc])∧i.size=5∧i.bytes=40:=⟨_,rfl,rfl,rfl,rfl⟩
theorem wpList_append_st {w:World} {ops:Array Oper} {rest:List Oper} {o:Oper} {a:Act} {Q:Exit→Act→World→Prop} (hgd:o.guard=none) (s x:Operand)
 (ho:o.op=.call {callee:=.builtin .append,args:=#[s,x],argTypes:=#[75,75]})
 (base:Nat) (v:Value) (k:Nat) (xs:List Value) (hs:a.eval s=v) (hO:w.ownsRow base 114 5 v k xs) (hk:k≤100)
 (cs:List Value) (hcl:cs.length=5) (g:Nat) (hx:a.eval x=.slice (some ⟨g,0,none⟩) 1 1) (hnews:∀j y,cs[j]? =some y→w.cell? ((⟨g,0,none⟩:Addr).add j)=some y) (h1:∀u∈cs,u.oneCell'=true)
 (hbase:base≤w.heap.size)
 (h:∀v' w',w'.ownsRow base 114 5 v' (k+1) (xs++cs)→w.grownBy w' v.ownBlock→Nx w v v'→wpList Tryz.prog ops Q rest (a.put o.dst v') w'):wpList Tryz.prog ops Q (o::rest) a w:=by
 obtain⟨i0,hi,hz0,hz1,hz2⟩:=infoStI
 exact wpList_plain hgd fun _ hK=>wp_append_nx s x 75 ho base 114 i0 (.agg #[.int .i64 0,.int .i64 0,.nilFunc,.nilFunc,.nilFunc]) 5 40 Tryz.underlying75 hi hz0 hz1 hz2 rfl (by decide) v k xs hs hO ⟨g,0,none⟩ 1 1 cs hx (by rw[hcl]) hnews h1 (by unfold maxLen;omega) (by omega) hbase (fun v' w' h2 h3 h4=>hK _ _ (h v' w' h2 h3 h4))
def rws (rows:Nat→Array Value):Nat→List Value
 |0=>[]
 |k+1=>rws rows k++(rows k).toList
theorem rws_len {rows:Nat→Array Value}:∀k,(∀i,i<k→(rows i).size=5)→(rws rows k).length=k*5
 |0,_=>rfl
 |k+1,h=>by
  rw[rws,List.length_append,rws_len k (fun i hi=>h i (by omega))]
  have:=h k (by omega)
  simp[this]
  omega
theorem rws_at {rows:Nat→Array Value}:∀(k i j:Nat),(∀i,i<k→(rows i).size=5)→i<k→j<5→(rws rows k)[i*5+j]? =(rows i).toList[j]?
 |0,i,j,_,h,_=>by omega
 |k+1,i,j,h,hi,hj=>by
  have hl:=rws_len k (fun i hi=>h i (by omega))
  rw[rws]
  rcases Nat.lt_or_ge i k with q|q
  ·rw[List.getElem?_append_left (by omega)]
   exact rws_at k i j (fun i hi=>h i (by omega)) q hj
  ·obtain rfl:i=k:=by omega
   rw[List.getElem?_append_right (by omega),hl]
   congr 1
   omega
def RdI (W:World) (S:Nat→Prop) (ts:List Slt) (rows:Nat→Array Value) (us:Nat→Value) (k:Nat):Prop:=∀i,i<k→SlC W S (gs ts i) (us i) (rows i)∧(nst (gs ts i)→RdL W S (us i) (gs ts i).sub)
theorem RdI.keep {W V:World} {S T:Nat→Prop} {ts:List Slt} {rows:Nat→Array Value} {us:Nat→Value} {k:Nat} (h:RdI W S ts rows us k) (hk:Sty W V S T):RdI V T ts rows us k:=fun i hi=>⟨(h i hi).1.keep hk,fun hn=>((h i hi).2 hn).keep hk⟩
theorem rdv_size {W:World} {S:Nat→Prop} {t:Slt} {x:Value} {row:Array Value} (h:SlC W S t x row):row.size=5:=by
 obtain⟨_,_,_,_,_,_,_,rfl⟩:=rdv_form h;rfl
theorem RdL.of {W:World} {base:Nat} {ts:List Slt} {rows:Nat→Array Value} {us:Nat→Value} {v:Value} (hl:ts.length≤16) (h:RdI W (fun b=>base≤b∧v.ownBlock≠some b) ts rows us ts.length) (hO:W.ownsRow base 114 5 v ts.length (rws rows ts.length)):RdL W (fun b=>base≤b) v ts:=by
 have hsz:∀i,i<ts.length→(rows i).size=5:=fun i hi=>rdv_size (h i hi).1
 have hk:RdI W (fun b=>base≤b) ts rows us ts.length:=h.keep ⟨Nat.le_refl _,fun b _ hb=>⟨rfl,hb.1⟩⟩
 have hcl:=fun g hg=>hO.cells (g:=g) hg
 obtain⟨q1,⟨hv,h0⟩|⟨g,cap,cur,hv,hb,hg,hn,hm,hs,ht⟩⟩:=hO
 ·subst hv
  have e0:ts=[]:=List.eq_nil_of_length_eq_zero h0
  subst e0
  exact RdL.mk none 0 [] rows us (by simp) (by simp) (fun _=>rfl) (fun i hi=>by simp at hi) (fun i hi=>by simp at hi)
 ·subst hv
  refine RdL.mk (some ⟨g,0,none⟩) cap ts rows us hl hn (fun e=>by cases e) (fun i hi=>⟨g,rfl,lt_of_row hg,hb,?_,(hk i hi).1⟩) (fun i hi hnn=>(hk i hi).2 hnn)
  intro j x hx
  have hj:j<5:=by
   have:=(List.getElem?_eq_some_iff.1 hx).1;have:=hsz i hi
   simp at *
   omega
  have:=hcl g rfl (i*5+j) x (by rw[rws_at _ _ _ hsz hi hj];exact hx)
  rw[add_off] at this;rw[←this]
theorem rws_congr {f g:Nat→Array Value}:∀k,(∀i,i<k→f i=g i)→rws f k=rws g k
 |0,_=>rfl
 |k+1,h=>by rw[rws,rws,rws_congr k (fun i hi=>h i (by omega)),h k (by omega)]
theorem a_compile {W:World} {S:Nat→Prop} {v:Value} {ts:List Slt} (h:MsgL W S v ts):gd ts→∀w,Below W.heap.size W w→Calls Tryz.prog 43 #[v] w fun e w'=>∃v',e=.returned v'∧(∃xo xn xc,v'=.slice xo xn xc)∧Below w.heap.size w w'∧RdL w' (fun b=>w.heap.size≤b) v' ts:=by
 induction h with
 |mk ao cap ts us hl hc h hs ih=>
  intro hgd w hw
  go_enter Tryz.func43,Tryz.ntmps43
  go_wp2_with (fail)
  go_loopw [3,8] (fun out i wr=>∃(k:Nat) (rows:Nat→Array Value) (xs:Nat→Value),k≤ts.length∧i=.int .i64 k∧Below w.heap.size w wr∧wr.ownsRow w.heap.size 114 5 out k (rws rows k)∧RdI wr (fun b=>w.heap.size≤b∧out.ownBlock≠some b) ts rows xs k) (fun _ i _=>ts.length-(intOf i).toNat)
  case atStart=>exact⟨0,fun _=>#[],fun _=>undef,by omega,rfl,Below.refl _ _,⟨rfl,.inl ⟨rfl,rfl⟩⟩,fun i hi=>by omega⟩
  case round=>
   obtain⟨k,rows,xs,hk,rfl,hb,hO,hI⟩:=hrel;obtain⟨mo,mc,rfl⟩:=own_slice hO;have hww:=Below.after hw hb
   by_cases hlt:k<ts.length
   ·have hd:decide ((k:Int)<(ts.length:Int))=true:=by simp;omega
    have hk1:0≤(k:Int)∧(k:Int)<(ts.length:Int):=by omega
    obtain⟨b,off,hao,hbl,_,hra,hok,hFl⟩:=h k hlt;obtain⟨_,hfit,hsubg⟩:=gd_at ts k hlt hgd
    have hform:nst (gs ts k)→∃so sn sc,gvs us k=.slice so sn sc:=fun hn=>(hs k hlt hn).form.elim fun _ q=>q.elim fun _ q=>⟨_,_,_,q⟩
    have hih:=fun hn=>ih k hlt hn (hsubg hn)
    subst hao;have hrw:=rangeS_keep2 hra hww hbl;have y0:wr.cell? ⟨b,off+k*2,none⟩=_:=hrw 0 _ rfl;have y1:wr.cell? ⟨b,off+k*2+1,none⟩=_:=hrw 1 _ rfl
    have cR:=fun V hV=>a_ready_any (t:=gs ts k) hfit hFl V hform (fun hn V' hV'=>hih hn V' (Below.after (Below.after hww hV) hV'))
    obtain⟨T,c,hsh⟩:=shp_iface (gs ts k) (gvs us k);rw[hsh] at y1 cR
    generalize hno:(gs ts k).no=no at *
    replace hno:=hide hno;clear h hs ih hra hrw hFl hfit hsubg hform hih hsh hok;have hba:Below wr.heap.size wr (wr.alloc (.cells #[.int .i64 no,.iface T c] 138)):=(Below.refl _ _).alloc (Nat.le_refl _) _;have cR1:=cR _ hba;have A1:=hide hba;have A2:=hide hb;have A3:=hide hO;have A7:=hide hI;clear cR hba hb hO hww hI
    go_wp2_with (fail)
    generalize wr.alloc (.cells #[.int .i64 no,.iface T c] 138)=w1 at *
    refine cR1.mono ?_;rintro e_ w2 ⟨row,x,rfl,hb2,hSl,hRd⟩;clear cR1;obtain⟨wt,k1,k2,k3,a1,a2,a3,hrow⟩:=rdv_form hSl;rw[hno.out] at hrow
    have hI2:RdI w2 (fun b=>w.heap.size≤b∧(Value.slice mo k mc).ownBlock≠some b∧b<w2.heap.size) ts (fun i=>if i=k then row else rows i) (fun i=>if i=k then x else xs i) (k+1):=fun i hi=>by
     have hs1:=A1.out.size;have hs2:=hb2.size
     rcases Nat.lt_or_ge i k with q|q
     ·have hne:i≠k:=by omega
      simp only[if_neg hne]
      have hst:Sty wr w2 (fun b=>w.heap.size≤b∧(Value.slice mo k mc).ownBlock≠some b) (fun b=>w.heap.size≤b∧(Value.slice mo k mc).ownBlock≠some b∧b<w2.heap.size):=⟨by omega,fun b h1 h2=>⟨(Below.after A1.out hb2).block b h1,h2.1,h2.2,by omega⟩⟩
      exact⟨((A7.out i q).1).keep hst,fun hn=>((A7.out i q).2 hn).keep hst⟩
     ·obtain rfl:i=k:=by omega
      simp only[if_true]
      have hst:Sty w2 w2 (fun b=>w1.heap.size≤b) (fun b=>w.heap.size≤b∧(Value.slice mo i mc).ownBlock≠some b∧b<w2.heap.size):=⟨Nat.le_refl _,fun b h1 h2=>⟨rfl,by have:=A2.out.size;omega,fun e=>by have:=(own_lt A3.out b e).2;omega,h1⟩⟩
      exact⟨hSl.keep hst,fun hn=>(hRd hn).keep hst⟩
    have hrw2:rws rows k++row.toList=rws (fun i=>if i=k then row else rows i) (k+1):=by
     rw[rws,if_pos rfl]
     congr 1
     exact rws_congr k fun i hi=>(if_neg (by omega)).symm
    subst hrow;have hbb:=Below.after A1.out hb2;have A8:=hide hI2;clear hI2 hSl hRd A7;have hB:=Below.after A2.out hbb
    have hO2:=own_but (w':=w2) A3.out fun q hq=>hbb.block q (own_lt A3.out q hq).2
    unfold rdv;have cN1:=hp1_0 w2 (.cells (rdv no wt k1 k2 k3 a1 a2 a3) 114)
    have hnc:∀j y,(rdv no wt k1 k2 k3 a1 a2 a3).toList[j]? =some y→(w2.alloc (.cells (rdv no wt k1 k2 k3 a1 a2 a3) 114)).cell? ((⟨w2.heap.size,0,none⟩:Addr).add j)=some y:=fun j y hy=>by
     rw[add_off,cell_of_row _ _ _ _ _ _ cN1]
     simpa using hy
    have hba2:Below w2.heap.size w2 (w2.alloc (.cells (rdv no wt k1 k2 k3 a1 a2 a3) 114)):=(Below.refl _ _).alloc (Nat.le_refl _) _
    have hO3:=own_but (w':=w2.alloc (.cells (rdv no wt k1 k2 k3 a1 a2 a3) 114)) hO2 fun q hq=>hba2.block q (own_lt hO2 q hq).2
    have hone:∀x∈(rdv no wt k1 k2 k3 a1 a2 a3).toList,x.oneCell'=true:=fun x hx=>by
     simp[rdv] at hx
     rcases hx with rfl|rfl|rfl|rfl|rfl<;>rfl
    have hsz2:=hB.size;unfold rdv at hnc hO3 hba2 hone;have A4:=hide hB;have A5:=hide hba2;have A6:=hide hO2;clear hB hba2 hO2 cN1 A1 A2 A3 hb2 hbb y0 y1
    go_wp2_with (first|(at_builtin;refine wpList_append_st rfl (.tmp 12) (.tmp 15) rfl w.heap.size _ k _ rfl hO3 (by omega) _ rfl w2.heap.size rfl hnc hone (by rw[size_alloc1];omega) ?_)|fail)
    intro v' w3 h1 h2 h3
    have hB3:Below w.heap.size w w3:=by
     refine(A4.out.trans (A5.out.mono hsz2)).grown h2 (by rw[size_alloc1];omega) (fun q hq=>?_)
     exact(own_lt A6.out q hq).1
    have hI3:RdI w3 (fun b=>w.heap.size≤b∧v'.ownBlock≠some b) ts _ _ (k+1):=A8.out.keep ⟨by have:=h2.size;rw[size_alloc1] at this;omega,fun b h4 h5=>by
     have e1:=h2.block b (by rw[size_alloc1];omega) (fun e=>h5.2.1 e.symm)
     refine⟨e1.trans (A5.out.block b h4),h5.1,fun e=>?_⟩
     rcases h3 with e2|⟨q,e2,hq⟩
     ·exact h5.2.1 (e2.symm.trans e)
     ·rw[e2] at e
      injection e with e
      rw[size_alloc1] at hq
      omega⟩
    replace h1:w3.ownsRow w.heap.size 114 5 v' (k+1) (rws (fun i=>if i=k then rdv no wt k1 k2 k3 a1 a2 a3 else rows i) (k+1)):=by rw[←hrw2];exact h1
    replace hI3:=hide hI3;clear A8 hrw2;obtain⟨no',co',hv'⟩:=own_slice h1;subst hv';clear h2 h3 hO3 hnc hone A4 A5 A6
    go_wp2_with (fail)
    refine⟨⟨k+1,_,_,by omega,by go_num,hB3,h1,hI3.out⟩,?_⟩
    simp[intOf];omega
   ·have hd:decide ((k:Int)<(ts.length:Int))=false:=by simp;omega
    clear h hs ih
    go_wp2_with (fail)
    go_ret
    obtain rfl:k=ts.length:=by omega
    exact⟨_,rfl,⟨_,_,_,rfl⟩,hb,RdL.of hl hI hO⟩
structure Flt3 where
 line:Int
 at_:Int
 why:Int
def frw (f:Flt3):Array Value:=#[.int .i64 f.line,.int .i64 f.at_,.int .i64 f.why]
def Gup (base:Nat) (f:Option Flt3) (e:Ending) (w':World) (P:Value→Prop):Prop:=
 match f with
 |none=>∃v,e=.returned v∧P v
 |some x=>∃g,e=.panicked [{v:=.iface 70 (.pointer (some ⟨g,0,none⟩)),recovered:=false}]∧base≤g∧w'.heap[g]? =some (.cells (frw x) 41 (0,0))
theorem a_giveUp (l a y:Int) (w:World):Calls Tryz.prog 51 #[.int .i64 l,.int .i64 a,.int .i64 y] w fun e w'=>Gup w.heap.size (some ⟨l,a,y⟩) e w' (fun _=>True)∧Below w.heap.size w w':=by
 have r0:=hp1_0 w (.cells #[.int .i64 l,.int .i64 a,.int .i64 y] 41);have hb:Below w.heap.size w (w.alloc (.cells #[.int .i64 l,.int .i64 a,.int .i64 y] 41)):=(Below.refl _ _).alloc (Nat.le_refl _) _
 go_enter Tryz.func51,Tryz.ntmps51
 go_wp2
 exact⟨rfl,⟨_,rfl,Nat.le_refl _,r0⟩,hb⟩
def wth (n l m:Int):Int:=if n<l∨m<n then 83 else 0
theorem a_within (n l m:Int):Gives 91 #[.int .u64 n,.int .u64 l,.int .u64 m] (.int .i64 (wth n l m)):=by
 intro w
 go_enter Tryz.func91,Tryz.ntmps91
 rcases Int.lt_or_le n l with q|q
 ·have e:wth n l m=83:=by unfold wth;rw[if_pos (.inl q)]
  have hd:decide (n<l)=true:=by simpa using q
  rw[e]
  go_wp2
  go_ret;exact⟨rfl,Below.refl _ _⟩
 ·have hd:decide (n<l)=false:=by simpa using q
  rcases Int.lt_or_le m n with q2|q2
  ·have e:wth n l m=83:=by unfold wth;rw[if_pos (.inr q2)]
   have hd2:decide (n>m)=true:=by simpa using q2
   rw[e]
   go_wp2
   go_ret;exact⟨rfl,Below.refl _ _⟩
  ·have e:wth n l m=0:=by unfold wth;rw[if_neg (by omega)]
   have hd2:decide (n>m)=false:=by simpa using q2
   rw[e]
   go_wp2
   go_ret;exact⟨rfl,Below.refl _ _⟩
def vrw (n:Nat) (dv pv:Value):Array Value:=#[.int .u64 (n:Int),dv,pv]
theorem a_fitNum (n:Nat) (da:Option Addr) (dl dc:Nat) (pa:Option Addr) (pl pc:Nat) (wt l m:Int) (g:Nat) (w:World) (hg:Bx w g #[.int .i64 wt,.int .u64 l,.int .u64 m]):Calls Tryz.prog 90 #[.agg (vrw n (.slice da dl dc) (.slice pa pl pc)),.pointer (some ⟨g,0,none⟩)] w fun e w'=>e=.returned (.int .i64 (wth (n:Int) l m))∧Below w.heap.size w w':=by
 obtain⟨T,hg⟩:=hg;have hlt:=lt_of_row hg
 have hne:¬w.heap.size=g:=by omega
 have hne2:¬g=w.heap.size:=by omega
 have c1:w.cell? ⟨g,1,none⟩=some (.int .u64 l):=by rw[cell_of_row _ _ _ _ _ _ hg];rfl
 have c2:w.cell? ⟨g,2,none⟩=some (.int .u64 m):=by rw[cell_of_row _ _ _ _ _ _ hg];rfl
 have cW:=a_within (n:Int) l m
 have hb:∀o,Below w.heap.size w (w.alloc o):=fun o=>(Below.refl _ _).alloc (Nat.le_refl _) _
 unfold vrw
 go_enter Tryz.func90,Tryz.ntmps90
 go_wp2_with (fail)
 refine(cW.at _).mono ?_;rintro e_ w1 ⟨rfl,hb1⟩;replace hb1:=Below.after (hb _) hb1
 go_wp2
 go_ret;exact⟨rfl,hb1⟩
theorem infoOct:(Tryz.prog.info? 186).map (·.size)=some 3:=by kernel_rfl
theorem a_octets (da:Option Addr) (dl dc:Nat) (l m:Int) (hdl:dl<9223372036854775808) (w:World):Calls Tryz.prog 95 #[.agg #[.int .u64 l,.int .u64 m,.bool false],.slice da dl dc] w fun e w'=>e=.returned (.int .i64 (wth (dl:Int) l m))∧Below w.heap.size w w':=by
 have cW:=a_within (dl:Int) l m
 have hb:∀o,Below w.heap.size w (w.alloc o):=fun o=>(Below.refl _ _).alloc (Nat.le_refl _) _
 go_enter Tryz.func95,Tryz.ntmps95
 go_wp2_with (fail)
 refine(cW.at _).mono ?_;rintro e_ w1 ⟨rfl,hb1⟩;have r0:=keep hb1 (hp1_0 w (.cells #[.int .u64 l,.int .u64 m,.bool false] 186))
 have c2:w1.cell? ⟨w.heap.size,2,none⟩=some (.bool false):=by rw[cell_of_row _ _ _ _ _ _ r0];rfl
 replace hb1:=Below.after (hb _) hb1
 rcases hz:(wth (dl:Int) l m==0)
 ·have hz2:¬wth (dl:Int) l m=0:=by simpa using hz
  clear r0 cW
  go_wp2
  go_ret;exact⟨rfl,hb1⟩
 ·have hz2:wth (dl:Int) l m=0:=by simpa using hz
  rw[hz2]
  replace hz2:=hide hz2;clear r0 cW hz
  go_wp2
  go_ret
  exact⟨by rw[hz2.out];rfl,hb1⟩
theorem a_fitOct (n:Nat) (da:Option Addr) (dl dc:Nat) (pa:Option Addr) (pl pc:Nat) (l m:Int) (hdl:dl<9223372036854775808) (g:Nat) (w:World) (hg:Bx w g #[.int .u64 l,.int .u64 m,.bool false]):Calls Tryz.prog 94 #[.agg (vrw n (.slice da dl dc) (.slice pa pl pc)),.pointer (some ⟨g,0,none⟩)] w fun e w'=>e=.returned (.int .i64 (wth (dl:Int) l m))∧Below w.heap.size w w':=by
 obtain⟨T,hg⟩:=hg;have hlt:=lt_of_row hg
 have hb:∀o,Below w.heap.size w (w.alloc o):=fun o=>(Below.refl _ _).alloc (Nat.le_refl _) _
 have cO:=a_octets da dl dc l m hdl
 have hg2:=fun o=>keep (hb o) hg
 unfold vrw
 go_enter Tryz.func94,Tryz.ntmps94
 go_wp2_with (first|(refine wpList_load_want rfl 186 _ rfl g rfl T #[.int .u64 l,.int .u64 m,.bool false] (0,0) _ (hg2 _) Tryz.underlying186 rfl infoOct ?_)|fail)
 refine(cO _).mono ?_;rintro e_ w1 ⟨rfl,hb1⟩;replace hb1:=Below.after (hb _) hb1;clear cO hg2 hg
 go_wp2
 go_ret;exact⟨rfl,hb1⟩
theorem infoV:(Tryz.prog.info? 27).map (·.size)=some 3:=by kernel_rfl
def pbad (b:Bool) (n dl pl:Nat):Bool:=decide (0<pl)||(b&&decide (n≠0))||(!b&&decide (0<dl))
def pck (deep no:Int) (b:Bool) (n dl pl:Nat) (E:Int):Option Flt3:=if pbad b n dl pl then some ⟨deep,no,84⟩ else if E=0 then none else some ⟨deep,no,E⟩
theorem a_plain1 (k:FuncId) (hk:k=90∨k=92∨k=94) (n:Nat) (da:Option Addr) (dl dc:Nat) (pa:Option Addr) (pl pc:Nat) (deep no:Int) (b:Bool) (E:Int) (g4 g0 g2 gs:Nat) (w:World)
 (h4:Bx w g4 #[.bool b]) (h0:Bx w g0 #[.int .i64 no]) (h2:Bx w g2 #[.func (.func k) #[] #[ptr gs]])
 (hF:∀V,Below w.heap.size w V→Calls Tryz.prog k #[.agg (vrw n (.slice da dl dc) (.slice pa pl pc)),ptr gs] V fun e w'=>e=.returned (.int .i64 E)∧Below V.heap.size V w'):
 Calls Tryz.prog 114 #[.agg (vrw n (.slice da dl dc) (.slice pa pl pc)),.int .i64 deep,ptr g4,ptr g0,ptr g2] w fun e w'=>Gup w.heap.size (pck deep no b n dl pl E) e w' (fun v=>v=.tuple #[])∧Below w.heap.size w w':=by
 obtain⟨T4,h4⟩:=h4;obtain⟨T0,h0⟩:=h0;obtain⟨T2,h2⟩:=h2;have l4:=lt_of_row h4;have l0:=lt_of_row h0;have l2:=lt_of_row h2;have hb0:Below w.heap.size w (w.alloc (.cells #[.int .u64 (n:Int),.slice da dl dc,.slice pa pl pc] 27)):=(Below.refl _ _).alloc (Nat.le_refl _) _;have rV:=hp1_0 w (.cells #[.int .u64 (n:Int),.slice da dl dc,.slice pa pl pc] 27)
 have n4:¬w.heap.size=g4:=by omega
 have n4':¬g4=w.heap.size:=by omega
 have n0:¬w.heap.size=g0:=by omega
 have n0':¬g0=w.heap.size:=by omega
 have n2:¬w.heap.size=g2:=by omega
 have n2':¬g2=w.heap.size:=by omega
 have c4:w.cell? ⟨g4,0,none⟩=some (.bool b):=by rw[cell_of_row _ _ _ _ _ _ h4];rfl
 have c0:w.cell? ⟨g0,0,none⟩=some (.int .i64 no):=by rw[cell_of_row _ _ _ _ _ _ h0];rfl
 have c2:w.cell? ⟨g2,0,none⟩=some (.func (.func k) #[] #[ptr gs]):=by rw[cell_of_row _ _ _ _ _ _ h2];rfl
 have cG:=a_giveUp deep no 84;have cF:=hF _ hb0
 unfold vrw at cF⊢
 unfold ptr at *
 clear hF h4 h0 h2;obtain⟨R,hR⟩:∃R,pck deep no b n dl pl E=R:=⟨_,rfl⟩;rw[hR]
 rcases hbad:pbad b n dl pl
 ·have eR:R=if E=0 then none else some ⟨deep,no,E⟩:=by rw[←hR,pck,hbad,if_neg Bool.false_ne_true]
  clear hR
  simp only[pbad,Bool.or_eq_false_iff,Bool.and_eq_false_iff,decide_eq_false_iff_not] at hbad;obtain⟨⟨q1,q2⟩,q3⟩:=hbad
  obtain rfl:pl=0:=by omega
  cases b
  ·obtain rfl:dl=0:=by
    rcases q3 with q|q
    ·simp at q
    ·omega
   clear q1 q2 q3;have cE:=a_giveUp deep no E
   rcases hk with rfl|rfl|rfl
   all_goals
    go_enter Tryz.func114,Tryz.ntmps114
    go_wp2_with (first|(refine wpList_load_want rfl 27 _ rfl w.heap.size rfl 27 #[.int .u64 (n:Int),.slice da dl dc,.slice pa 0 pc] (0,0) _ rV Tryz.underlying27 rfl infoV ?_)|fail)
    refine cF.mono ?_;rintro e_ w1 ⟨rfl,hb1⟩
    have c01:w1.cell? ⟨g0,0,none⟩=some (.int .i64 no):=(hb1.cell (p:=⟨g0,0,none⟩) (by rw[size_alloc1];exact Nat.lt_succ_of_lt l0)).trans ((hb0.cell (p:=⟨g0,0,none⟩) l0).trans c0)
    replace hb1:=Below.after hb0 hb1;clear cF
    rcases hE:(E==0)
    ·have hE2:¬E=0:=by simpa using hE
     rw[if_neg hE2] at eR
     replace eR:=hide eR
     go_wp2_with (fail)
     refine(cE _).mono ?_;rintro e_ w2 ⟨hg,hb2⟩;obtain⟨g,rfl,hgl,hgr⟩:=hg;replace hb2:=Below.after hb1 hb2
     go_wp2
     rw[eR.out];exact⟨rfl,⟨g,rfl,Nat.le_trans hb1.size hgl,hgr⟩,hb2⟩
    ·obtain rfl:E=0:=by simpa using hE
     rw[if_pos rfl] at eR
     replace eR:=hide eR;clear cE cG
     go_wp2
     go_end0;rw[eR.out];exact⟨⟨_,rfl,rfl⟩,hb1⟩
  ·obtain rfl:n=0:=by
    rcases q2 with q|q
    ·simp at q
    ·omega
   clear q1 q2 q3;have cE:=a_giveUp deep no E
   rcases hk with rfl|rfl|rfl
   all_goals
    go_enter Tryz.func114,Tryz.ntmps114
    go_wp2_with (first|(refine wpList_load_want rfl 27 _ rfl w.heap.size rfl 27 #[.int .u64 ((0:Nat):Int),.slice da dl dc,.slice pa 0 pc] (0,0) _ rV Tryz.underlying27 rfl infoV ?_)|fail)
    refine cF.mono ?_;rintro e_ w1 ⟨rfl,hb1⟩
    have c01:w1.cell? ⟨g0,0,none⟩=some (.int .i64 no):=(hb1.cell (p:=⟨g0,0,none⟩) (by rw[size_alloc1];exact Nat.lt_succ_of_lt l0)).trans ((hb0.cell (p:=⟨g0,0,none⟩) l0).trans c0)
    replace hb1:=Below.after hb0 hb1;clear cF
    rcases hE:(E==0)
    ·have hE2:¬E=0:=by simpa using hE
     rw[if_neg hE2] at eR
     replace eR:=hide eR
     go_wp2_with (fail)
     refine(cE _).mono ?_;rintro e_ w2 ⟨hg,hb2⟩;obtain⟨g,rfl,hgl,hgr⟩:=hg;replace hb2:=Below.after hb1 hb2
     go_wp2
     rw[eR.out];exact⟨rfl,⟨g,rfl,Nat.le_trans hb1.size hgl,hgr⟩,hb2⟩
    ·obtain rfl:E=0:=by simpa using hE
     rw[if_pos rfl] at eR
     replace eR:=hide eR;clear cE cG
     go_wp2
     go_end0;rw[eR.out];exact⟨⟨_,rfl,rfl⟩,hb1⟩
 ·have eR:R=some ⟨deep,no,84⟩:=by rw[←hR,pck,hbad,if_pos rfl]
  clear hR cF
  replace eR:=hide eR
  rcases Nat.eq_zero_or_pos pl with rfl|hp
  ·cases b
   ·have hq:0<dl:=by simpa[pbad] using hbad
    have hd:decide ((dl:Int)>0)=true:=by simp;omega
    clear hbad
    go_enter Tryz.func114,Tryz.ntmps114
    go_wp2_with (fail)
    refine(cG _).mono ?_;rintro e_ w2 ⟨hg,hb2⟩;obtain⟨g,rfl,hgl,hgr⟩:=hg;replace hb2:=Below.after hb0 hb2
    go_wp2
    rw[eR.out];exact⟨rfl,⟨g,rfl,Nat.le_trans hb0.size hgl,hgr⟩,hb2⟩
   ·have hq:¬n=0:=by simpa[pbad] using hbad
    have hd:((n:Int)==0)=false:=by simp;omega
    have hd2:¬(n:Int)=0:=by omega
    clear hbad
    go_enter Tryz.func114,Tryz.ntmps114
    go_wp2_with (fail)
    refine(cG _).mono ?_;rintro e_ w2 ⟨hg,hb2⟩;obtain⟨g,rfl,hgl,hgr⟩:=hg;replace hb2:=Below.after hb0 hb2
    go_wp2
    rw[eR.out];exact⟨rfl,⟨g,rfl,Nat.le_trans hb0.size hgl,hgr⟩,hb2⟩
  ·have hd:decide ((pl:Int)>0)=true:=by simp;omega
   clear hbad
   go_enter Tryz.func114,Tryz.ntmps114
   go_wp2_with (fail)
   refine(cG _).mono ?_;rintro e_ w2 ⟨hg,hb2⟩;obtain⟨g,rfl,hgl,hgr⟩:=hg;replace hb2:=Below.after hb0 hb2
   go_wp2
   rw[eR.out];exact⟨rfl,⟨g,rfl,Nat.le_trans hb0.size hgl,hgr⟩,hb2⟩
theorem hmf:∀(fn:Fn) (first cap:Array Value) (w:World),(Instr.makeFunc fn first cap).run Tryz.prog w=.ok (.func fn first cap) w:=fun _ _ _ _=>rfl
theorem eql_nils (W:World):(binOp .eql 20 .nilIface .nilIface).run Tryz.prog W=.ok (.bool true) W:=by kernel_rfl
theorem eql_fault (v:Value) (W:World):(binOp .eql 20 (.iface 70 v) .nilIface).run Tryz.prog W=.ok (.bool false) W:=by kernel_rfl
theorem ta_fault (v:Value) (W:World):(Instr.typeAssert (.iface 70 v) 20 70 true).run Tryz.prog W=.ok (.tuple #[v,.bool true]) W:=by kernel_rfl
theorem catch_idle (p:Addr) (w:World):CallsD Tryz.prog 50 #[.pointer (some p)] .returning w fun e u' w'=>e=.returned (.tuple #[])∧u'=.returning∧w'=w:=by
 refine callsD_of_wpS Tryz.func50 rfl fun c₀ cs hu=>?_
 apply wpS_seq
 apply wpS_region
 simp[wpOpsS,go_sem,recoverD,hu,Tryz.ntmps50,Exit.thenS,Array.replicate]
 refine wpS_of_wp ?_;have h1:=eql_nils
 go_wp2
 cases c₀
 simp_all [bodyPostS,results,Tryz.results50]
theorem catch_panicking (p:Addr) (old:Value) (g:Nat) (older:List PanicEntry) (w:World) (hc:w.cell? p=some old) (hz:w.frozen? p=false):
 CallsD Tryz.prog 50 #[.pointer (some p)] (.panicking ({v:=.iface 70 (.pointer (some ⟨g,0,none⟩)),recovered:=false}::older)) w fun e u' w'=>
  e=.returned (.tuple #[])∧u'=.panicking ({v:=.iface 70 (.pointer (some ⟨g,0,none⟩)),recovered:=true}::older)∧w'=w.setCell p (.iface 70 (.pointer (some ⟨g,0,none⟩))):=by
 refine callsD_of_wpS Tryz.func50 rfl fun c₀ cs hu=>?_
 apply wpS_seq
 apply wpS_region
 simp[wpOpsS,go_sem,recoverD,hu,Tryz.ntmps50,Exit.thenS,Array.replicate]
 refine wpS_of_wp ?_;have h1:=eql_fault (.pointer (some ⟨g,0,none⟩));have h2:=ta_fault (.pointer (some ⟨g,0,none⟩))
 go_wp2
 cases c₀
 simp_all [bodyPostS,results,Tryz.results50]
def Cgt (base:Nat) (f:Option Flt3) (e:Ending) (w':World):Prop:=
 match f with
 |none=>e=.returned .nilIface
 |some x=>∃g,e=.returned (.iface 70 (.pointer (some ⟨g,0,none⟩)))∧base≤g∧w'.heap[g]? =some (.cells (frw x) 41 (0,0))
theorem a_caughtC (F:Option Flt3) (ca cb:Value) (w:World)
 (hD:∀V,Below w.heap.size w V→Calls Tryz.prog 32 #[ca,cb] V fun e w'=>Gup V.heap.size F e w' (fun v=>v=.tuple #[])∧Below V.heap.size V w'):
 Calls Tryz.prog 31 #[.func (.func 32) #[] #[ca,cb]] w fun e w'=>Cgt w.heap.size F e w'∧Below w.heap.size w w':=by
 have h0:=hmf;have hb0:Below w.heap.size w (w.alloc (.cells #[.nilIface] 37)):=(Below.refl _ _).alloc (Nat.le_refl _) _;have r0:=hp1_0 w (.cells #[.nilIface] 37);have cD:=hD _ hb0;clear hD
 go_enter_defers Tryz.func31,Tryz.ntmps31
 go_wp2_with (fail)
 refine cD.mono ?_;rintro e_ w1 ⟨hG,hb1⟩
 cases F with
 |none=>
  obtain⟨v,rfl,rfl⟩:=hG;have r1:=keep hb1 r0
  have c1:w1.cell? ⟨w.heap.size,0,none⟩=some .nilIface:=by rw[cell_of_row _ _ _ _ _ _ r1];rfl
  have f1:=row_frozen r1 0;have hw:=Below.after hb0 hb1;have r2:=heap_setCell_same w1 w.heap.size 0 _ _ .nilIface r1
  have hw2:=hw.setCell (show w.heap.size≤(⟨w.heap.size,0,none⟩:Addr).block from Nat.le_refl _) .nilIface
  have c2:(w1.setCell ⟨w.heap.size,0,none⟩ .nilIface).cell? ⟨w.heap.size,0,none⟩=some .nilIface:=by rw[cell_of_row _ _ _ _ _ _ r2];rfl
  go_wp2
  refine leaves_cons (f:=50) (args:=#[.pointer (some ⟨w.heap.size,0,none⟩)]) (by simp) (by simp[go_sem]) ?_
  refine(catch_idle ⟨w.heap.size,0,none⟩ _).mono ?_;rintro e u' w'' ⟨rfl,rfl,rfl⟩
  simp[Leaves,settle,results,Tryz.results31,go_sem,c2]
  exact⟨rfl,hw2⟩
 |some f=>
  obtain⟨g,rfl,hg1,hg2⟩:=hG;have r1:=keep hb1 r0
  have c1:w1.cell? ⟨w.heap.size,0,none⟩=some .nilIface:=by rw[cell_of_row _ _ _ _ _ _ r1];rfl
  have f1:=row_frozen r1 0;have hw:=Below.after hb0 hb1;have r2:=heap_setCell_same w1 w.heap.size 0 _ _ (.iface 70 (.pointer (some ⟨g,0,none⟩))) r1
  have hw2:=hw.setCell (show w.heap.size≤(⟨w.heap.size,0,none⟩:Addr).block from Nat.le_refl _) (.iface 70 (.pointer (some ⟨g,0,none⟩)))
  have c2:(w1.setCell ⟨w.heap.size,0,none⟩ (.iface 70 (.pointer (some ⟨g,0,none⟩)))).cell? ⟨w.heap.size,0,none⟩=some (.iface 70 (.pointer (some ⟨g,0,none⟩))):=by rw[cell_of_row _ _ _ _ _ _ r2];rfl
  go_wp2
  refine leaves_cons (f:=50) (args:=#[.pointer (some ⟨w.heap.size,0,none⟩)]) (by simp) (by simp[go_sem]) ?_
  refine(catch_panicking ⟨w.heap.size,0,none⟩ .nilIface g [] _ c1 f1).mono ?_;rintro e u' w'' ⟨rfl,rfl,rfl⟩
  simp[Leaves,settle,results,Tryz.results31,go_sem,c2]
  rw[size_alloc1] at hg1
  exact⟨⟨g,rfl,by omega,(heap_setCell_other w1 ⟨w.heap.size,0,none⟩ g _ (show g≠w.heap.size by omega)).trans hg2⟩,hw2⟩
theorem wp_call_up {P:Program} {o:Oper} {a:Act} {w:World} {K:Act→World→Prop} {Q:Exit→Act→World→Prop} {f:FuncId} {args:Array Value} {base:Nat} {F:Option Flt3} {R:Value→Prop} {B:World→Prop} (hx:(execOp a.eval o).run P w=.ok (.enter f args) w)
 (c:Calls P f args w fun e w'=>Gup base F e w' R∧B w') (h:F=none→∀v w',R v→B w'→K (a.put o.dst v) w')
 (hp:∀x,F=some x→∀g w',base≤g→w'.heap[g]? =some (.cells (frw x) 41 (0,0))→B w'→Q (.panic [{v:=.iface 70 (.pointer (some ⟨g,0,none⟩)),recovered:=false}]) a w'):o.wp P a w K Q:=by
 unfold Oper.wp;rw[hx,Oper.upon_enter]
 refine c.mono fun e w' ⟨hG,hB⟩=>?_
 cases F with
 |none=>
  obtain⟨v,rfl,hv⟩:=hG;exact h rfl v w' hv hB
 |some x=>
  obtain⟨g,rfl,h1,h2⟩:=hG;exact hp x rfl g w' h1 h2 hB
theorem run_call_val {P:Program} {o:Oper} {ρ:Operand→Value} {w:World} {f:FuncId} {caps:Array Value} (x:Operand) (ys:Array Operand) (ats:Array TypeId) (ho:o.op=.call {callee:=.value x,args:=ys,argTypes:=ats}) (hx:ρ x=.func (.func f) #[] caps) (args:Array Value) (hys:ys.map ρ=args) (hent:∀args W,(callFunc f args).run P W=.ok (.enter f args) W):(execOp ρ o).run P w=.ok (.enter f (args++caps)) w:=by
 unfold execOp;simp only[ho,resolve,hx,hys,Deferred.ofValue,invoke,Sem.run_bind,Sem.run_pure,Result.andThen_ok,hent,Array.empty_append]
structure VR where
 num:Nat
 da:Option Addr
 dl:Nat
 dc:Nat
 pa:Option Addr
 pl:Nat
 pc:Nat
def vrv (x:VR):Array Value:=vrw x.num (.slice x.da x.dl x.dc) (.slice x.pa x.pl x.pc)
def vr0:VR:=⟨0,none,0,0,none,0,0⟩
def gx (xs:List VR) (i:Nat):VR:=xs.getD i vr0
def Prt (W:World) (v:Value) (xs:List VR):Prop:=∃ao cap,v=.slice ao xs.length cap∧xs.length≤cap∧(∀i,i<xs.length→(gx xs i).num<18446744073709551616∧(gx xs i).dl<9223372036854775808)∧∀i,i<xs.length→∃b off,ao=some ⟨b,off,none⟩∧b<W.heap.size∧W.rangeAt b (off+i*3) (vrv (gx xs i)).toList
theorem Prt.keep {W V:World} {v:Value} {xs:List VR} (h:Prt W v xs) (hb:Below W.heap.size W V):Prt V v xs:=by
 obtain⟨ao,cap,e,hc,hn,h⟩:=h
 refine⟨ao,cap,e,hc,hn,fun i hi=>?_⟩
 obtain⟨b,off,h1,h2,h3⟩:=h i hi;exact⟨b,off,h1,Nat.lt_of_lt_of_le h2 hb.size,rangeS_keep2 h3 hb h2⟩
theorem ent_plain1 (args:Array Value) (W:World):(callFunc 114 args).run Tryz.prog W=.ok (.enter 114 args) W:=by kernel_rfl
theorem infoSt':(Tryz.prog.info? 114).map (·.size)=some 5:=by kernel_rfl
def Cdc (W:World) (g:Nat) (ts:List Slt):Prop:=∃x,RdL W (fun _=>True) x ts∧W.heap[g]? =some (.cells #[x,.int .i64 ((prS ts).1:Int),.int .i64 ((prS ts).2:Int)] 77 (0,0))
theorem Cdc.keep {W V:World} {g:Nat} {ts:List Slt} (h:Cdc W g ts) (hb:Below W.heap.size W V):Cdc V g ts:=by
 obtain⟨x,h1,h2⟩:=h;exact⟨x,h1.keep (Sty.below hb),(hb.block g (lt_of_row h2)).trans h2⟩
theorem range_row {W:World} {g:Nat} {c:Array Value} (h:Bx W g c):W.rangeAt g 0 c.toList:=fun j v hv=>by
 obtain⟨T,h⟩:=h;rw[Nat.zero_add,cell_of_row _ _ _ _ _ _ h]
 simpa using hv
theorem a_check1 (F:Option Flt3) (bc bv g:Nat) (xo:Option Addr) (xn xc:Nat) (lo hi:Int) (n:Nat) (da:Option Addr) (dl dc:Nat) (pa:Option Addr) (pl pc:Nat) (w:World)
 (hc:Bx w bc #[.pointer (some ⟨g,0,none⟩)]) (hv:Bx w bv #[.int .u64 (n:Int),.slice da dl dc,.slice pa pl pc]) (hg:Bx w g #[.slice xo xn xc,.int .i64 lo,.int .i64 hi])
 (cC:∀V,Below w.heap.size w V→Calls Tryz.prog 33 #[.slice xo xn xc,.agg #[.int .u64 (n:Int),.slice da dl dc,.slice pa pl pc],.int .i64 1] V fun e w'=>Gup V.heap.size F e w' (fun v=>v=.tuple #[])∧Below V.heap.size V w'):
 Calls Tryz.prog 32 #[.pointer (some ⟨bc,0,none⟩),.pointer (some ⟨bv,0,none⟩)] w fun e w'=>Gup w.heap.size F e w' (fun v=>v=.tuple #[])∧Below w.heap.size w w':=by
 go_enter Tryz.func32,Tryz.ntmps32
 have hS0:(fun W:World=>Bx W bc #[.pointer (some ⟨g,0,none⟩)]∧Bx W bv #[.int .u64 (n:Int),.slice da dl dc,.slice pa pl pc]∧Bx W g #[.slice xo xn xc,.int .i64 lo,.int .i64 hi]) w:=⟨hc,hv,hg⟩
 refine wp_region_held (S:=fun W:World=>Bx W bc #[.pointer (some ⟨g,0,none⟩)]∧Bx W bv #[.int .u64 (n:Int),.slice da dl dc,.slice pa pl pc]∧Bx W g #[.slice xo xn xc,.int .i64 lo,.int .i64 hi]) (by kernel_rfl) ?_
 change wpAnyH _ _ _ _ _ _ _ _ (World.drew _)
 have hbd:Below w.heap.size w w.drew:=below_drN (Below.refl _ _) 1
 replace hS0:(fun W:World=>Bx W bc #[.pointer (some ⟨g,0,none⟩)]∧Bx W bv #[.int .u64 (n:Int),.slice da dl dc,.slice pa pl pc]∧Bx W g #[.slice xo xn xc,.int .i64 lo,.int .i64 hi]) w.drew:=hS0
 have cC2:Calls Tryz.prog 33 #[.slice xo xn xc,.agg #[.int .u64 (n:Int),.slice da dl dc,.slice pa pl pc],.int .i64 1] w.drew fun e w'=>Gup w.heap.size F e w' (fun v=>v=.tuple #[])∧Below w.heap.size w w':=(cC w.drew hbd).mono fun e w' h=>⟨h.1,Below.after hbd h.2⟩
 clear cC;refine wTy 0 (.pointer (some ⟨g,0,none⟩)) rfl ?y1 hS0 ?r1
 case y1=>
  intro w_ hS_;obtain⟨_,h_⟩:=hS_.1;have c_:=cell_of_row _ _ 0 _ _ _ h_;go_simp
  try with_reducible rfl
 simp only[Act.put,ZPa,ZPc,ZPd,ZPe,ZPf];refine wTy 1 ?v2 rfl ?y2 hS0 ?r2
 case y2=>
  intro w_ hS_;go_simp
  try with_reducible rfl
 simp only[Act.put,ZPa,ZPb,ZPc,ZPd,ZPe,ZPf];refine wTy 2 ?v3 rfl ?y3 hS0 ?r3
 case y3=>
  intro w_ hS_;go_simp
  try with_reducible rfl
 simp only[Act.put,ZPa,ZPb,ZPc,ZPd,ZPe,ZPf];refine wTy 3 (.slice xo xn xc) rfl ?y4 hS0 ?r4
 case y4=>
  intro w_ hS_;obtain⟨_,h_⟩:=hS_.2.2;have c_:=cell_of_row _ _ 0 _ _ _ h_;go_simp
  try with_reducible rfl
 simp only[Act.put,ZPa,ZPb,ZPc,ZPd,ZPe,ZPf]
 refine wTk (i:=4) (v:=.agg #[.int .u64 (n:Int),.slice da dl dc,.slice pa pl pc]) rfl (yieldsIf_load_mid (by rfl) 27 _ rfl bv 0 rfl [.int .u64 (n:Int),.slice da dl dc,.slice pa pl pc] _ (fun _ h=>range_row h.2.1) Tryz.underlying27 rfl infoV) hS0 ?_
 simp only[Act.put,ZPa,ZPb,ZPc,ZPd,ZPe,ZPf]
 refine wpAnyH_one (k:=5) (fuel:=0) (by kernel_rfl) rfl (by kernel_rfl) (fun K_ hK=>?_)
 refine wp_call_up (base:=w.heap.size) (F:=F) (R:=fun v=>v=.tuple #[]) (B:=fun w'=>Below w.heap.size w w') ?hx cC2 ?_ ?_
 case hx=>kernel_rfl
 ·intro hF v_ w4 hv4 hb4
  subst hv4
  subst hF;refine hK _ _ ⟨hc.keep hb4,hv.keep hb4,hg.keep hb4⟩ ?_;simp only[Act.put,ZPa,ZPb,ZPc,ZPd,ZPe,ZPf];clear hK
  refine wpAnyH_done (by kernel_rfl) ?_ _
  go_wp2_with (fail)
  go_end0;exact⟨⟨_,rfl,rfl⟩,hb4⟩
 ·intro x hF g4 w4 h1 h2 hb4
  subst hF
  go_wp2_with (fail)
  exact⟨rfl,⟨g4,rfl,h1,h2⟩,hb4⟩
theorem bVal (cs:Array Value) (W:World):(Instr.box 27 (.agg cs)).run Tryz.prog W=.ok (.pointer (some ⟨W.heap.size,0,none⟩)) (W.alloc (.cells cs 27)):=by kernel_rfl
end Go.Proofs.YtmmlkfkpblokiaaGreatDoor
