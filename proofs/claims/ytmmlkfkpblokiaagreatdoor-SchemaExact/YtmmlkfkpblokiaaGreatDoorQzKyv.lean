import Derived.Test.YtmmlkfkpblokiaaGreatDoorQzKyx
set_option maxRecDepth 100000
set_option maxHeartbeats 16000000
namespace Go.Proofs.YtmmlkfkpblokiaaGreatDoor
open Go Go.RowKit Go.Sort
attribute [local go_sem] setCell_drewN alloc_drewN
def EvQ (W:World) (base:Nat) (F:Option Flt3) (ev:Value):Prop:=match F with
 |none=>ev=.nilIface
 |some f=>f.why≠0∧∃g,ev=.iface 70 (.pointer (some ⟨g,0,none⟩))∧base≤g∧W.heap[g]? =some (.cells (frw f) 41 (0,0))
theorem EvQ.keep {W V:World} {base:Nat} {F:Option Flt3} {ev:Value} (h:EvQ W base F ev) (hb:Below W.heap.size W V):EvQ V base F ev:=by
 cases F with
 |none=>exact h
 |some f=>obtain⟨h0,g,h1,h2,h3⟩:=h;exact⟨h0,g,h1,h2,Go.Proofs.YtmmlkfkpblokiaaGreatDoor.keep hb h3⟩
theorem a_DecodeU {g:Nat} {ts:List Slt} (d:List B) (b:Value) (w:World) (hT:Lib.Utf8Tabs 2 3 w) (hC:Cdc w g ts) (hB:BysB w b d) (hcap:∀a l c,b=.slice a l c→l≤c):
 Calls Tryz.prog 17 #[.pointer (some ⟨g,0,none⟩),b] w fun e w'=>∃x ev,e=.returned (.tuple #[.agg (vrv x),ev])∧VtO w' (fun b=>w.heap.size≤b) x (valU (deT utD flD ts d 0) (mgT ts d))∧EvQ w' w.heap.size (deT utD flD ts d 0) ev∧Below w.heap.size w w':=by
 refine(a_DecodeO plo8 d b w hT hC hB hcap).mono ?_;rintro e w' ⟨h,hb⟩
 have hw:=fun f (q:deT utD flD ts d 0=some f)=>de_why d 0 f q
 generalize deT utD flD ts d 0=F at *
 cases F with
 |none=>obtain⟨x,rfl,hx⟩:=h;exact⟨x,_,rfl,hx,rfl,hb⟩
 |some f=>obtain⟨q,rfl,h1,h2⟩:=h;exact⟨⟨0,none,0,0,none,0,0⟩,_,rfl,vto_zero _ _,⟨hw f rfl,q,rfl,h1,h2⟩,hb⟩
theorem r_DecodeU {g:Nat} {ts:List Slt} (hv:vld ts=0) (d:List B) (b:Value) (w:World) (hC:Rdc w g ts) (hB:BysB w b d) (hcap:∀a l c,b=.slice a l c→l≤c):
 Calls Tryz.prog 18 #[.pointer (some ⟨g,0,none⟩),b] w fun e w'=>∃x,e=.returned (.tuple #[.agg (vrv x),.agg (flr (deT utD flD ts d 0))])∧VtO w' (fun b=>w.heap.size≤b) x (valU (deT utD flD ts d 0) (mgT ts d))∧Below w.heap.size w w':=by
 refine(r_DecodeT hv d b w hC hB hcap).mono ?_;rintro e w' ⟨h,hb⟩
 generalize deT utD flD ts d 0=F at *
 cases F with
 |none=>obtain⟨x,rfl,hx⟩:=h;exact⟨x,rfl,hx,hb⟩
 |some f=>obtain rfl:=h;exact⟨⟨0,none,0,0,none,0,0⟩,rfl,vto_zero _ _,hb⟩
theorem l_faultyU {F:Option Flt3} {ev:Value} {base:Nat} (w:World) (hE:Ety w) (h:EvQ w base F ev):Calls Tryz.prog 11 #[ev,.agg (flr F)] w fun e w'=>e=.returned (.bool true)∧Below w.heap.size w w':=by
 cases F with
 |none=>obtain rfl:=h;exact l_faulty8_nil 0 0 w
 |some f=>obtain⟨h0,g,rfl,_,h2⟩:=h;exact l_faulty8_hit f h0 g w hE h2
theorem rdc_keepv {W V:World} {g:Nat} {ts:List Slt} (h:Rdc W g ts) (hb:Below W.heap.size W V):Rdc V g ts:=by
 obtain⟨u,h1,h2⟩:=h;exact⟨u,keep hb h1,h2.keep hb⟩
theorem EvQ.other {W:World} {base:Nat} {F:Option Flt3} {ev:Value} (h:EvQ W base F ev) (g:Nat) (cs:Array Value) (hg:g<base):EvQ (W.setRow g cs) base F ev:=by
 cases F with
 |none=>exact h
 |some f=>obtain⟨h0,q,h1,h2,h3⟩:=h;exact⟨h0,q,h1,h2,(setRow_other W g q cs (by omega)).trans h3⟩
def pzr:List Value:=[.int .u64 0,nS,nS]
def pmk:List Value:=[.int .u64 4711,nS,nS]
inductive HVt (W:World) (S:Nat→Prop):VR→VT→Prop
 |mk (n D G:Nat) (d:List B) (xs:List VR) (ps:List VT) (hn:n<18446744073709551616) (hd:d.length≤640063) (hp:ps.length≤10000) (hD:D<W.heap.size) (hSD:S D) (hG:G<W.heap.size) (hSG:S G)
  (hc:W.heap[D]? =some (.cells (irow .u8 (bl d++[7,8,9])) 5 (0,0))) (hx:xs.length=ps.length)
  (h:∀i,i<ps.length→W.rangeAt G (i*3) (vrv (gx xs i)).toList)
  (hm:∀i,ps.length≤i→i<ps.length+3→W.rangeAt G (i*3) pmk)
  (hs:∀i,i<ps.length→HVt W S (gx xs i) (gvt ps i)):HVt W S ⟨n,some ⟨D,0,none⟩,d.length,d.length+3,some ⟨G,0,none⟩,ps.length,ps.length+3⟩ (.mk n d ps)
theorem HVt.keep {W V:World} {S T:Nat→Prop} {x:VR} {X:VT} (h:HVt W S x X) (hs:W.heap.size≤V.heap.size) (hb:∀b,b<W.heap.size→S b→V.heap[b]? =W.heap[b]?∧T b):HVt V T x X:=by
 induction h with
 |mk n D G d xs ps hn hd hp hD hSD hG hSG hc hx h hm _ ih=>
  exact .mk n D G d xs ps hn hd hp (by omega) (hb D hD hSD).2 (by omega) (hb G hG hSG).2 ((hb D hD hSD).1.trans hc) hx (fun i hi=>range_same (h i hi) (hb G hG hSG).1) (fun i h1 h2=>range_same (hm i h1 h2) (hb G hG hSG).1) ih
def pvw (n:Nat) (xs:List VR) (k i:Nat):List Value:=if i<k then(if i<n then(vrv (gx xs i)).toList else pmk) else pzr
theorem pvw_len (n:Nat) (xs:List VR) (k i:Nat):(pvw n xs k i).length=3:=by
 unfold pvw
 split
 ·split<;>rfl
 ·rfl
def Pvw (W:World) (G n:Nat) (xs:List VR) (k:Nat):Prop:=∃cs,W.heap[G]? =some (.cells cs 27 (0,0))∧cs.size=(n+3)*3∧∀i c,i<n+3→c<3→cs[i*3+c]? =(pvw n xs k i)[c]?
theorem Pvw.keep {W V:World} {G n:Nat} {xs:List VR} {k:Nat} (h:Pvw W G n xs k) (hb:V.heap[G]? =W.heap[G]?):Pvw V G n xs k:=by
 obtain⟨cs,h1,h2⟩:=h;exact⟨cs,hb.trans h1,h2⟩
theorem Pvw.range {W:World} {G n:Nat} {xs:List VR} {k i:Nat} (h:Pvw W G n xs k) (hi:i<n+3):W.rangeAt G (i*3) (pvw n xs k i):=by
 obtain⟨cs,h1,h2,h3⟩:=h;have hl:=pvw_len n xs k i;intro j v hv;have hj:=(List.getElem?_eq_some_iff.1 hv).1
 rw[cell_of_row _ _ _ _ _ _ h1,h3 i j hi (by omega)]
 exact hv
theorem Pvw.mark {W:World} {G n:Nat} {xs:List VR} {k:Nat} (h:Pvw W G n xs k) (hk:n≤k) (hk3:k<n+3):Pvw (W.setCell ⟨G,k*3,none⟩ (.int .u64 4711)) G n xs (k+1):=by
 obtain⟨cs,h1,h2,h3⟩:=h
 refine⟨_,heap_setCell_same W G (k*3) cs _ _ h1,by simp[h2],fun i c hi hc=>?_⟩
 rw[Array.getElem?_setIfInBounds]
 by_cases e:k*3=i*3+c
 ·have e1:i=k:=by omega
  have e2:c=0:=by omega
  subst e1 e2
  rw[if_pos e,if_pos (by omega)]
  unfold pvw
  rw[if_pos (by omega),if_neg (by omega)];rfl
 ·rw[if_neg e,h3 i c hi hc]
  by_cases e1:i=k
  ·subst e1
   have c0:c≠0:=by omega
   unfold pvw
   rw[if_neg (by omega),if_pos (by omega),if_neg (by omega)]
   rcases(by omega:c=1∨c=2) with rfl|rfl<;>rfl
  ·unfold pvw
   by_cases e2:i<k
   ·rw[if_pos e2,if_pos (show i<k+1 by omega)]
   ·rw[if_neg e2,if_neg (show¬i<k+1 by omega)]
theorem Pvw.part {W V:World} {G n:Nat} {xs:List VR} {k:Nat} {y:VR} (h:Pvw W G n xs k) (hk:k<n) (hu:xs.length=k) (hV:V.heap[G]? =(W.setCell ⟨G,k*3,none⟩ (.int .u64 4711)).heap[G]?):Pvw (V.setCells G (k*3) (vrv y).toList) G n (xs++[y]) (k+1):=by
 obtain⟨cs,h1,h2,h3⟩:=h;have s1:=heap_setCell_same W G (k*3) cs _ (.int .u64 4711) h1
 have s2:(V.setCells G (k*3) (vrv y).toList).heap[G]? =_:=
  heap_setCell_same _ G (k*3+1+1) _ _ (.slice y.pa y.pl y.pc) (heap_setCell_same _ G (k*3+1) _ _ (.slice y.da y.dl y.dc) (heap_setCell_same V G (k*3) _ _ (.int .u64 (y.num:Int)) (hV.trans s1)))
 refine⟨_,s2,by simp[h2],fun i c hi hc=>?_⟩
 simp only[Array.getElem?_setIfInBounds,Array.size_setIfInBounds]
 by_cases e1:i=k
 ·subst e1
  have e3:pvw n (xs++[y]) (i+1) i=(vrv y).toList:=by
   unfold pvw
   rw[if_pos (by omega),if_pos hk,←hu,gx_hi]
  rw[e3]
  have hb:i*3+c<cs.size:=by omega
  rcases(by omega:c=0∨c=1∨c=2) with rfl|rfl|rfl
  ·rw[if_neg (by omega),if_neg (by omega),if_pos (by omega),if_pos (by omega)];rfl
  ·rw[if_neg (by omega),if_pos (by omega),if_pos (by omega)];rfl
  ·rw[if_pos (by omega),if_pos (by omega)];rfl
 ·rw[if_neg (by omega),if_neg (by omega),if_neg (by omega),if_neg (by omega),h3 i c hi hc]
  unfold pvw
  by_cases e2:i<k
  ·rw[if_pos e2,if_pos (by omega),if_pos (by omega),if_pos (by omega),gx_lo (by omega)]
  ·rw[if_neg e2,if_neg (by omega)]
end Go.Proofs.YtmmlkfkpblokiaaGreatDoor
