import Derived.Test.YtmmlkfkpblokiaaGreatDoorQzKth
set_option maxRecDepth 100000
set_option maxHeartbeats 16000000
namespace Go.Proofs.YtmmlkfkpblokiaaGreatDoor
open Go Go.RowKit Go.Sort
attribute [local go_sem] setCell_drewN alloc_drewN
section
variable (utf : List B → Bool) (flE : Nat → Nat → Int)
def ftN (k:Int) (l m:Nat) (f:Fd):Int:=plE8 utf flE k l m (.mk f.num f.dat [])
def itN (dec:List B→Int→Option Flt3):List (List B)→Int→Option Flt3
 |[],_=>none
 |b::bs,from_=>match dec b (from_+((en b.length).length:Int)) with
  |some e=>some e
  |none=>itN dec bs (from_+((en b.length).length:Int)+(b.length:Int))
def lsN (l m:Nat) (dec:List B→Int→Option Flt3) (d:List B) (at_ from_:Int):Option Flt3:=
 if spe (sp d)≠0 then some ⟨0,from_+spa (sp d),spe (sp d)⟩
 else if wth ((spp (sp d)).length:Int) (l:Int) (m:Int)≠0 then some ⟨0,at_,wth ((spp (sp d)).length:Int) (l:Int) (m:Int)⟩
 else itN dec (spp (sp d)) from_
def rdN (k:Int) (l m:Nat) (dec:List B→Int→Option Flt3) (f:Fd) (at_:Int):Option Flt3:=
 if k=8 then dec f.dat (at_+((fby f).length:Int)-(f.dat.length:Int))
 else if k=9 then lsN l m dec f.dat at_ (at_+((fby f).length:Int)-(f.dat.length:Int))
 else rdE at_ (ftN utf flE k l m f)
def dsN (no k:Int) (l m:Nat) (dec:List B→Int→Option Flt3) (f:Fd) (at_:Int):Option Flt3:=if f.no≠no then some ⟨0,at_,81⟩ else if f.ty≠wtA k then some ⟨0,at_,82⟩ else rdN utf flE k l m dec f at_
def decN (g:List Fd→Int→Option Flt3) (b:List B) (from_:Int):Option Flt3:=if der (dwh b)≠0 then some ⟨0,from_+dpl (dwh b),der (dwh b)⟩ else g (dfs (dwh b)) from_
def dcT:List Slt→List Fd→Int→Option Flt3
 |[],[],_=>none
 |[],_::_,at_=>some ⟨0,at_,81⟩
 |_::_,[],at_=>some ⟨0,at_,81⟩
 | .mk no k l m sub::ts,f::fs,at_=>match dsN utf flE no k l m (decN (dcT sub)) f at_ with
  |some x=>some x
  |none=>dcT ts fs (at_+((fby f).length:Int))
def deT (ts:List Slt) (b:List B) (from_:Int):Option Flt3:=decN (dcT utf flE ts) b from_
def dsT (t:Slt) (f:Fd) (at_:Int):Option Flt3:=dsN utf flE t.no t.kind t.least t.most (deT utf flE t.sub) f at_
def rdT (t:Slt) (f:Fd) (at_:Int):Option Flt3:=rdN utf flE t.kind t.least t.most (deT utf flE t.sub) f at_
theorem dcT_cons (t:Slt) (ts:List Slt) (f:Fd) (fs:List Fd) (at_:Int):dcT utf flE (t::ts) (f::fs) at_=match dsT utf flE t f at_ with
 |some x=>some x
 |none=>dcT utf flE ts fs (at_+((fby f).length:Int)):=by
 cases t
 rw[dcT];rfl
theorem dcT_step {ts:List Slt} {fs:List Fd} {at_:Int} {k:Nat} (h1:k<ts.length) (h2:k<fs.length):dcT utf flE (ts.drop k) (fs.drop k) at_=match dsT utf flE (gs ts k) (gf fs k) at_ with
 |some x=>some x
 |none=>dcT utf flE (ts.drop (k+1)) (fs.drop (k+1)) (at_+((fby (gf fs k)).length:Int)):=by
 rw[sdrop ts k h1,fdrop fs k h2,dcT_cons]
theorem dcT_short {ts:List Slt} {fs:List Fd} {at_:Int} {k:Nat} (h1:k<ts.length) (h2:fs.length=k):dcT utf flE (ts.drop k) (fs.drop k) at_=some ⟨0,at_,81⟩:=by
 rw[sdrop ts k h1,List.drop_of_length_le (show fs.length≤k by omega),dcT]
theorem dcT_long {ts:List Slt} {fs:List Fd} {at_:Int} {k:Nat} (h1:ts.length=k) (h2:k<fs.length):dcT utf flE (ts.drop k) (fs.drop k) at_=some ⟨0,at_,81⟩:=by
 rw[List.drop_of_length_le (by omega:ts.length≤k),fdrop fs k h2,dcT]
theorem dcT_end {ts:List Slt} {fs:List Fd} {at_:Int} {k:Nat} (h1:ts.length=k) (h2:fs.length=k):dcT utf flE (ts.drop k) (fs.drop k) at_=none:=by
 rw[List.drop_of_length_le (by omega:ts.length≤k),List.drop_of_length_le (by omega:fs.length≤k),dcT]
end
def vlN (k:Int) (dv:List B→VT) (f:Fd):VT:=if k=8 then dv f.dat else if k=9 then .mk 0 [] ((spp (sp f.dat)).map dv) else .mk f.num f.dat []
def vlT:List Slt→List Fd→List VT
 | .mk _ k _ _ sub::ts,f::fs=>vlN k (fun b=>.mk 0 [] (vlT sub (dfs (dwh b)))) f::vlT ts fs
 |_,_=>[]
def mgT (ts:List Slt) (b:List B):VT:=.mk 0 [] (vlT ts (dfs (dwh b)))
def vlS (t:Slt) (f:Fd):VT:=vlN t.kind (mgT t.sub) f
theorem vlT_cons (t:Slt) (ts:List Slt) (f:Fd) (fs:List Fd):vlT (t::ts) (f::fs)=vlS t f::vlT ts fs:=by
 cases t
 rw[vlT];rfl
theorem vlT_nil (fs:List Fd):vlT [] fs=[]:=by rw[vlT];intros;contradiction
theorem vlT_len:∀(ts:List Slt) (fs:List Fd),ts.length=fs.length→(vlT ts fs).length=ts.length
 |[],[],_=>by rw[vlT_nil];rfl
 |t::ts,f::fs,h=>by rw[vlT_cons,List.length_cons,List.length_cons,vlT_len ts fs (by simpa using h)]
 |[],_::_,h=>by simp at h
 |_::_,[],h=>by simp at h
theorem vlT_take:∀(ts:List Slt) (fs:List Fd) (k:Nat),k<ts.length→k<fs.length→vlT (ts.take (k+1)) (fs.take (k+1))=vlT (ts.take k) (fs.take k)++[vlS (gs ts k) (gf fs k)]
 |[],_,_,h,_=>by simp at h
 |_::_,[],_,_,h=>by simp at h
 |t::ts,f::fs,0,_,_=>by
  rw[List.take_succ_cons,List.take_succ_cons,List.take_zero,List.take_zero,vlT_cons,List.take_zero,List.take_zero,vlT_nil];rfl
 |t::ts,f::fs,k+1,h,hk=>by
  rw[List.take_succ_cons,List.take_succ_cons,vlT_cons,vlT_take ts fs k (by simpa using h) (by simpa using hk),List.take_succ_cons,List.take_succ_cons,vlT_cons]
  rfl
def vrs:List VR→List Value
 |[]=>[]
 |x::xs=>(vrv x).toList++vrs xs
theorem vrs_snoc:∀(xs:List VR) (x:VR),vrs (xs++[x])=vrs xs++(vrv x).toList
 |[],x=>by simp[vrs]
 |y::xs,x=>by rw[List.cons_append,vrs,vrs,vrs_snoc xs x,List.append_assoc]
theorem vrs_at:∀(xs:List VR) (i j:Nat),i<xs.length→j<3→(vrs xs)[i*3+j]? =(vrv (gx xs i)).toList[j]?
 |[],_,_,h,_=>by simp at h
 |x::xs,0,j,_,hj=>by
  rw[vrs,Nat.zero_mul,Nat.zero_add,List.getElem?_append_left (by show j<3;exact hj)]
  rfl
 |x::xs,i+1,j,h,hj=>by
  rw[vrs,List.getElem?_append_right (by show 3≤_;omega)]
  have:(i+1)*3+j-(vrv x).toList.length=i*3+j:=by show _-3=_;omega
  rw[this,vrs_at xs i j (by simpa using h) hj]
  rfl
inductive Wip (W:World) (S:Nat→Prop):Nat→VR→Prop
 |mk (n:Nat) (x:VR) (bs:List B) (xs:List VR) (hd:Own W 0 (.slice x.da x.dl x.dc) bs) (hds:∀k,(Value.slice x.da x.dl x.dc).ownBlock=some k→S k)
  (hp:W.ownsRow 0 27 3 (.slice x.pa x.pl x.pc) xs.length (vrs xs)) (hps:∀k,(Value.slice x.pa x.pl x.pc).ownBlock=some k→S k)
  (hbl:bs.length≤140737488351232) (hxl:xs.length≤1048576)
  (h:∀i,i<xs.length→Wip W S n (gx xs i)):Wip W S (n+1) x
theorem own_butR {w w':World} {base size n:Nat} {e:TypeId} {v:Value} {xs:List Value} (h:w.ownsRow base e size v n xs) (hb:∀k,v.ownBlock=some k→w'.heap[k]? =w.heap[k]?):w'.ownsRow base e size v n xs:=by
 refine⟨h.1,?_⟩
 rcases h.2 with x|⟨g,cap,cur,rfl,h1,h2,h3⟩
 ·exact .inl x
 ·exact .inr ⟨g,cap,cur,rfl,h1,(hb g rfl).trans h2,h3⟩
theorem Wip.keep {W V:World} {S T:Nat→Prop} {n:Nat} {x:VR} (h:Wip W S n x) (hk:Sty W V S T):Wip V T n x:=by
 induction h with
 |mk n x bs xs hd hds hp hps hbl hxl h ih=>
  have k1:=fun k q=>hk.2 k (own_high_row hd k q).2 (hds k q)
  have k2:=fun k q=>hk.2 k (own_high_row hp k q).2 (hps k q)
  exact .mk n x bs xs (own_butR hd (fun k q=>(k1 k q).1)) (fun k q=>(k1 k q).2) (own_butR hp (fun k q=>(k2 k q).1)) (fun k q=>(k2 k q).2) hbl hxl ih
theorem Wip.up1 {W:World} {S:Nat→Prop} {n:Nat} {x:VR} (h:Wip W S n x):Wip W S (n+1) x:=by
 induction h with
 |mk n x bs xs hd hds hp hps hbl hxl h ih=>exact .mk (n+1) x bs xs hd hds hp hps hbl hxl ih
theorem Wip.up {W:World} {S:Nat→Prop} {n m:Nat} {x:VR} (h:Wip W S n x) (hm:n≤m):Wip W S m x:=by
 obtain⟨k,rfl⟩:∃k,m=n+k:=⟨m-n,by omega⟩
 clear hm
 induction k with
 |zero=>exact h
 |succ k ih=>exact ih.up1
theorem wip_all {W:World} {S:Nat→Prop} {xs:List VR}:∀k:Nat,(∀i,i<k→∃n,Wip W S n (gx xs i))→∃n,∀i,i<k→Wip W S n (gx xs i)
 |0,_=>⟨0,fun i hi=>by omega⟩
 |k+1,h=>by
  obtain⟨n,hn⟩:=wip_all k (fun i hi=>h i (by omega))
  obtain⟨m,hm⟩:=h k (by omega)
  refine⟨n+m,fun i hi=>?_⟩
  rcases Nat.lt_or_ge i k with q|q
  ·exact(hn i q).up (by omega)
  ·obtain rfl:i=k:=by omega
   exact hm.up (by omega)
def VtO (W:World) (S:Nat→Prop) (x:VR) (X:VT):Prop:=VtM W S x X∧∃n,Wip W S n x
theorem VtO.keep {W V:World} {S T:Nat→Prop} {x:VR} {X:VT} (h:VtO W S x X) (hk:Sty W V S T):VtO V T x X:=⟨h.1.keep hk,h.2.imp fun _ q=>q.keep hk⟩
theorem VtO.blw {W V:World} {S:Nat→Prop} {x:VR} {X:VT} (h:VtO W S x X) (hb:Below W.heap.size W V):VtO V S x X:=h.keep (Sty.below hb)
theorem VtO.wid {W:World} {S T:Nat→Prop} {x:VR} {X:VT} (h:VtO W S x X) (hk:∀b,S b→T b):VtO W T x X:=h.keep ⟨Nat.le_refl _,fun b _ hS=>⟨rfl,hk b hS⟩⟩
theorem VtO.other {W:World} {S T:Nat→Prop} {x:VR} {X:VT} (h:VtO W S x X) (g:Nat) (cs:Array Value) (hk:∀b,S b→b≠g∧T b):VtO (W.setRow g cs) T x X:=h.keep ⟨by simp,fun b _ hS=>⟨setRow_other W g b cs (hk b hS).1,(hk b hS).2⟩⟩
def PaW (W:World) (lo base:Nat) (v:Value) (xs:List VR) (ps:List VT):Prop:=
 W.ownsRow base 27 3 v ps.length (vrs xs)∧xs.length=ps.length∧∀i,i<ps.length→VtO W (fun b=>lo≤b∧v.ownBlock≠some b) (gx xs i) (gvt ps i)
theorem paw_nil (W:World) (lo base:Nat):PaW W lo base nS [] []:=⟨⟨rfl,.inl ⟨rfl,rfl⟩⟩,rfl,fun i hi=>by simp at hi⟩
theorem PaW.keep {W V:World} {lo base:Nat} {v:Value} {xs:List VR} {ps:List VT} (h:PaW W lo base v xs ps) (hb:Below W.heap.size W V):PaW V lo base v xs ps:=
 ⟨own_keep_row h.1 hb,h.2.1,fun i hi=>(h.2.2 i hi).blw hb⟩
theorem gx_lo {xs:List VR} {x:VR} {i:Nat} (h:i<xs.length):gx (xs++[x]) i=gx xs i:=by
 rw[gx,gx,List.getD_eq_getElem?_getD,List.getElem?_append_left h,←List.getD_eq_getElem?_getD]
theorem gx_hi {xs:List VR} {x:VR}:gx (xs++[x]) xs.length=x:=by
 rw[gx,List.getD_eq_getElem?_getD,List.getElem?_append_right (Nat.le_refl _),Nat.sub_self];rfl
theorem gvt_lo {xs:List VT} {x:VT} {i:Nat} (h:i<xs.length):gvt (xs++[x]) i=gvt xs i:=by
 rw[gvt,gvt,List.getD_eq_getElem?_getD,List.getElem?_append_left h,←List.getD_eq_getElem?_getD]
theorem gvt_hi {xs:List VT} {x:VT}:gvt (xs++[x]) xs.length=x:=by
 rw[gvt,List.getD_eq_getElem?_getD,List.getElem?_append_right (Nat.le_refl _),Nat.sub_self];rfl
theorem PaW.snoc {W W':World} {lo base:Nat} {v v':Value} {xs:List VR} {ps:List VT} {x:VR} {X:VT} (h:PaW W lo base v xs ps) (hx:VtO W (fun b=>lo≤b∧v.ownBlock≠some b) x X)
 (ho:W'.ownsRow base 27 3 v' (ps.length+1) (vrs xs++(vrv x).toList)) (hg:W.grownBy W' v.ownBlock) (hk:Nx W v v'):PaW W' lo base v' (xs++[x]) (ps++[X]):=by
 have hst:Sty W W' (fun b=>lo≤b∧v.ownBlock≠some b) (fun b=>lo≤b∧v'.ownBlock≠some b):=⟨hg.size,fun b hb hS=>⟨hg.block b hb (fun e=>hS.2 e.symm),hS.1,fun e=>by
  rcases hk with q|⟨k,q,q2⟩
  ·exact hS.2 (q.symm.trans e)
  ·rw[q] at e
   injection e with e
   omega⟩⟩
 have h21:=h.2.1
 refine⟨by rw[List.length_append,List.length_singleton,vrs_snoc];exact ho,by rw[List.length_append,List.length_append,h21];rfl,fun i hi=>?_⟩
 rw[List.length_append,List.length_singleton] at hi
 rcases Nat.lt_or_ge i ps.length with q|q
 ·rw[gx_lo (by omega),gvt_lo q]
  exact(h.2.2 i q).keep hst
 ·obtain rfl:i=ps.length:=by omega
  rw[gvt_hi,←h21,gx_hi]
  exact hx.keep hst
theorem PaW.msg {W:World} {lo base:Nat} {v:Value} {xs:List VR} {ps:List VT} (h:PaW W lo base v xs ps) (hl:lo≤base) (hm:ps.length≤1048576):∃pa pc,v=.slice pa ps.length pc∧VtO W (fun b=>lo≤b) ⟨0,none,0,0,pa,ps.length,pc⟩ (.mk 0 [] ps):=by
 obtain⟨h1,h2,h3⟩:=h;have h1':=h1
 have hB0:BysB W nS ([]:List B):=⟨⟨none,0,rfl,by decide,fun j hj=>by simp[bl] at hj,by simp[bl]⟩,by decide,fun a l c e _=>by cases e;rfl⟩
 have hs:∀i,i<ps.length→VtO W (fun b=>lo≤b) (gx xs i) (gvt ps i):=fun i hi=>(h3 i hi).keep ⟨Nat.le_refl _,fun b _ hS=>⟨rfl,hS.1⟩⟩
 have hwp:∀pa pc,v=.slice pa ps.length pc→∃n,Wip W (fun b=>lo≤b) n ⟨0,none,0,0,pa,ps.length,pc⟩:=fun pa pc e=>by
  obtain⟨n,hn⟩:=wip_all (S:=fun b=>lo≤b) ps.length (fun i hi=>(hs i hi).2)
  subst e
  exact⟨n+1,.mk n _ [] xs ⟨rfl,.inl ⟨rfl,rfl⟩⟩ (fun k q=>by cases q) (by rw[h2];exact own_down_row h1 (Nat.zero_le _)) (fun k q=>Nat.le_trans hl (own_high_row h1 k q).1) (by simp) (by omega) (fun i hi=>hn i (by omega))⟩
 obtain⟨_,⟨rfl,h0⟩|⟨g,cap,cur,rfl,hb,hg,hn,hmx,hsz,ht⟩⟩:=h1'
 ·refine⟨none,0,by rw[h0],⟨.mk ⟨0,none,0,0,none,ps.length,0⟩ [] xs ps (by show 0<18446744073709551616;decide) rfl (by decide) hB0 (Nat.le_refl _) (fun a e=>by cases lv_some e) rfl h2 (by omega) (by omega) (fun a e=>by cases lv_some e) (fun i hi=>by omega) (fun i hi=>(hs i hi).1),hwp _ _ (by rw[h0])⟩⟩
 ·refine⟨some ⟨g,0,none⟩,cap,rfl,⟨.mk ⟨0,none,0,0,some ⟨g,0,none⟩,ps.length,cap⟩ [] xs ps (by show 0<18446744073709551616;decide) rfl (by decide) hB0 (Nat.le_refl _) (fun a e=>by cases lv_some e) rfl h2 hn (by omega) (fun a e=>by cases lv_some e;exact⟨Nat.le_trans hl hb,lt_of_row hg⟩) (fun i hi=>⟨g,0,rfl,fun j x hx=>?_⟩) (fun i hi=>(hs i hi).1),hwp _ _ rfl⟩⟩
  have hj:j<3:=by have:=(List.getElem?_eq_some_iff.1 hx).1;exact this
  have:=h1.cells (g:=g) rfl (i*3+j) x (by rw[vrs_at xs i j (by omega) hj];exact hx)
  rw[add_off] at this;rw[←this,Nat.zero_add]
structure Fdk (W:World) (P:Nat→Prop) (f:Fd) (da:Option Addr) (dc:Nat) (at_:Int):Prop where
 hB:BysB W (.slice da f.dat.length dc) f.dat
 hc:f.dat.length≤dc
 hi:InS W P da
 ok:Fok f
 no0:0≤f.no
 no1:f.no≤536870911
 kn:known f.ty
 fb:(fby f).length≤4194304
 a0:0≤at_
 a1:at_+((fby f).length:Int)≤1152921504606846976
 ow:Own W 0 (.slice da f.dat.length dc) f.dat
 os:∀k,(Value.slice da f.dat.length dc).ownBlock=some k→P k
theorem Fdk.keep {W V:World} {P:Nat→Prop} {f:Fd} {da:Option Addr} {dc:Nat} {at_:Int} (h:Fdk W P f da dc at_) (hb:Below W.heap.size W V):Fdk V P f da dc at_:=
 ⟨h.hB.keep hb,h.hc,fun a e=>⟨(h.hi a e).1,Nat.lt_of_lt_of_le (h.hi a e).2 hb.size⟩,h.ok,h.no0,h.no1,h.kn,h.fb,h.a0,h.a1,h.ow.keep hb,h.os⟩
def RdR (w:World) (P:Nat→Prop) (F:Option Flt3) (X:VT) (e:Ending) (w':World):Prop:=Gup w.heap.size F e w' (fun v=>∃x,v=.agg (vrv x)∧VtO w' (fun b=>P b∨w.heap.size≤b) x X)∧Below w.heap.size w w'
theorem fby_dat {f:Fd} (h:f.ty=2):f.dat.length≤(fby f).length:=by
 rw[fby,List.length_append,fvl,if_neg (by omega),if_neg (by omega),if_neg (by omega),itm_len]
 omega
theorem plain_tree {W:World} {P:Nat→Prop} {f:Fd} {da:Option Addr} {dc:Nat} {at_:Int} (h:Fdk W P f da dc at_) {V:World} (hb:Below W.heap.size W V) {Q:Nat→Prop} (hQ:∀b,P b→Q b):VtO V Q ⟨f.num,da,f.dat.length,dc,none,0,0⟩ (.mk f.num f.dat []):=
 ⟨.mk ⟨f.num,da,f.dat.length,dc,none,0,0⟩ f.dat [] [] h.ok.1 rfl h.ok.2.1 (h.hB.keep hb) h.hc (fun a e=>⟨hQ _ (h.hi a (lv_some e)).1,Nat.lt_of_lt_of_le (h.hi a (lv_some e)).2 hb.size⟩) rfl rfl (Nat.le_refl 0) (by decide) (fun a e=>by cases lv_some e) (fun i hi=>by simp at hi) (fun i hi=>by simp at hi),1,.mk 0 ⟨f.num,da,f.dat.length,dc,none,0,0⟩ f.dat [] (h.ow.keep hb) (fun k q=>hQ k (h.os k q)) ⟨rfl,.inl ⟨rfl,rfl⟩⟩ (fun k q=>by cases q) h.ok.2.1 (by simp) (fun i hi=>by simp at hi)⟩
theorem VtM.wid {W:World} {S T:Nat→Prop} {x:VR} {X:VT} (h:VtM W S x X) (hk:∀b,S b→T b):VtM W T x X:=h.keep ⟨Nat.le_refl _,fun b _ hS=>⟨rfl,hk b hS⟩⟩
theorem VtM.other {W:World} {S T:Nat→Prop} {x:VR} {X:VT} (h:VtM W S x X) (g:Nat) (cs:Array Value) (hk:∀b,S b→b≠g∧T b):VtM (W.setRow g cs) T x X:=h.keep ⟨by simp,fun b _ hS=>⟨setRow_other W g b cs (hk b hS).1,(hk b hS).2⟩⟩
theorem wpList_call_upW {P:Program} {ops:Array Oper} {rest:List Oper} {o:Oper} {a:Act} {w:World} {Q:Exit→Act→World→Prop} {f:FuncId} {args:Array Value} (base:Nat) (F:Option Flt3) (R:Value→World→Prop) (B:World→Prop) (hgd:o.guard=none) (hx:(execOp a.eval o).run P w=.ok (.enter f args) w)
 (c:Calls P f args w fun e w'=>Gup base F e w' (fun v=>R v w')∧B w') (h:F=none→∀v w',R v w'→B w'→wpList P ops Q rest (a.put o.dst v) w')
 (hp:∀x,F=some x→∀g w',base≤g→w'.heap[g]? =some (.cells (frw x) 41 (0,0))→B w'→Q (.panic [{v:=.iface 70 (.pointer (some ⟨g,0,none⟩)),recovered:=false}]) a w'):wpList P ops Q (o::rest) a w:=
 wpList_plain hgd fun _ hK=>wp_call_upW base F R B hx c (fun hF v w' hR hB=>hK _ _ (h hF v w' hR hB)) hp
theorem a_dataOf (f:Fd) (ao:Option Addr) (cap:Nat) (at_:Int) (hat:0≤at_∧at_≤1152921504606846976) (hf:Fok f) (h0:0≤f.no) (h1:f.no≤536870911) (hk:known f.ty) (hFB:(fby f).length≤4194304) (w:World):Calls Tryz.prog 126 #[.agg #[.int .i64 f.no,.int .i64 f.ty,.int .u64 (f.num:Int),.slice ao f.dat.length cap],.int .i64 at_] w fun e w'=>e=.returned (.int .i64 (at_+((fby f).length:Int)-(f.dat.length:Int)))∧Below w.heap.size w w':=by
 have cE:=a_endOf f ao cap at_ ⟨hat.1,by omega⟩ hf h0 h1 hk
 have hdl:=hf.2.1;clear hf h0 h1 hk
 generalize (fby f).length=FL at *
 generalize f.no=fno at *
 generalize f.ty=fty at *
 generalize f.num=num at *
 generalize f.dat.length=dl at *
 clear f;have R0:=hp1_0 w (.cells #[.int .i64 fno,.int .i64 fty,.int .u64 (num:Int),.slice ao dl cap] 118);have hw:Below w.heap.size w (w.alloc (.cells #[.int .i64 fno,.int .i64 fty,.int .u64 (num:Int),.slice ao dl cap] 118)):=(Below.refl _ _).alloc (Nat.le_refl _) _
 go_enter Tryz.func126,Tryz.ntmps126
 go_upto_region 1 with(fail)
 generalize w.alloc (.cells #[.int .i64 fno,.int .i64 fty,.int .u64 (num:Int),.slice ao dl cap] 118)=w1 at *
 have hbd:Below w1.heap.size w1 w1.drew:=below_drN (Below.refl _ _) 1;replace R0:=keep hbd R0;replace hw:=Below.after hw hbd;clear hbd
 have q1:IntKind.wrap .i64 (at_+(FL:Int)-(dl:Int))=at_+(FL:Int)-(dl:Int):=by rw[IntKind.wrap_i64];omega
 refine wp_region_noPanic ?_
 refine wp_region_held (S:=fun W:World=>W.heap[w.heap.size]? =some (.cells #[.int .i64 fno,.int .i64 fty,.int .u64 (num:Int),.slice ao dl cap] 118 (0,0))) (by kernel_rfl) ?_
 change wpAnyH _ _ _ _ _ _ _ _ (World.drew _)
 generalize w1.drew=y1 at *
 refine wTk (i:=0) (v:=.agg #[.int .i64 fno,.int .i64 fty,.int .u64 (num:Int),.slice ao dl cap]) rfl (yieldsIf_load_mid (by rfl) 118 _ rfl (w.heap.size) 0 rfl [.int .i64 fno,.int .i64 fty,.int .u64 (num:Int),.slice ao dl cap] _ (fun _ h=>range_row ⟨_,h⟩) Tryz.underlying118 rfl infoFi) R0 ?_
 simp only[Act.put,ZPa,ZPc,ZPd,ZPe,ZPf];refine wTy 1 (.int .i64 at_) rfl ?y1do R0 ?r1do
 case y1do=>
  intro w_ hS_
  skip
  go_simp
  try with_reducible rfl
 simp only[Act.put,ZPa,ZPb,ZPc,ZPd,ZPe,ZPf];refine wTy 3 ?vfb rfl ?y2do R0 ?r2do
 case y2do=>
  intro w_ hS_
  skip
  go_simp
  try with_reducible rfl
 simp only[Act.put,ZPa,ZPb,ZPc,ZPd,ZPe,ZPf];refine wTy 4 (.slice ao dl cap) rfl ?y3do R0 ?r3do
 case y3do=>
  intro w_ hS_;have c_:=cell_of_row _ _ 3 _ _ _ hS_;go_simp
  try with_reducible rfl
 simp only[Act.put,ZPa,ZPb,ZPc,ZPd,ZPe,ZPf];refine wTy 5 (.int .i64 (dl:Int)) rfl ?y4do R0 ?r4do
 case y4do=>
  intro w_ hS_
  skip
  go_simp
  try with_reducible rfl
 simp only[Act.put,ZPa,ZPb,ZPc,ZPd,ZPe,ZPf]
 refine wpAnyH_one (k:=2) (fuel:=2) (by kernel_rfl) rfl (by kernel_rfl) (fun K_ hK=>?_)
 refine wp_call_ex (f:=59) (by kernel_rfl) (cE y1) (fun v_ y2 hX_=>?_)
 obtain⟨rfl,hb_⟩:=hX_;replace R0:=keep hb_ R0;replace hw:=Below.after hw hb_;clear hb_;refine hK _ _ R0 ?_;simp only[Act.put,ZPa,ZPb,ZPc,ZPd,ZPe,ZPf];clear hK
 refine wpAnyH_take (i:=6) (v:=.int .i64 (at_+(FL:Int)-(dl:Int))) rfl (by kernel_rfl) (by kernel_rfl) (by kernel_rfl) (fun _ _ _ h=>h) (Or.inl ⟨by rfl,?y5do⟩) R0 ?r5do
 case y5do=>
  intro w_ hS_
  skip
  go_simp
  try with_reducible rfl
 simp only[Act.put,ZPa,ZPb,ZPc,ZPd,ZPe,ZPf];refine wTy 7 ?vfc rfl ?y6do R0 ?r6do
 case y6do=>
  intro w_ hS_
  skip
  go_simp
  try with_reducible rfl
 simp only[Act.put,ZPa,ZPb,ZPc,ZPd,ZPe,ZPf]
 refine wpAnyH_done (by kernel_rfl) ?_ _
 refine NoPanic.normal ?_
 go_wp2_with (fail)
 go_ret;exact⟨rfl,hw⟩
theorem a_inner3 (P:Nat→Prop) (f:Fd) (da:Option Addr) (dc:Nat) (at_:Int) (g:Nat) (so:Option Addr) (sn sc:Nat) (w:World) (F:Option Flt3) (X:VT) (hf:Fdk w P f da dc at_) (hg:Bx w g #[.slice so sn sc])
 (hC:∀V,Below w.heap.size w V→Calls Tryz.prog 38 #[.slice so sn sc,.slice da f.dat.length dc,.int .i64 (at_+((fby f).length:Int)-(f.dat.length:Int))] V fun e w'=>Gup V.heap.size F e w' (fun v=>∃x,v=.agg (vrv x)∧VtO w' (fun b=>V.heap.size≤b) x X)∧Below V.heap.size V w'):
 Calls Tryz.prog 125 #[.agg #[.int .i64 f.no,.int .i64 f.ty,.int .u64 (f.num:Int),.slice da f.dat.length dc],.int .i64 at_,ptr g] w (RdR w P F X):=by
 have cD:=a_dataOf f da dc at_ ⟨hf.a0,by have:=hf.a1;omega⟩ hf.ok hf.no0 hf.no1 hf.kn hf.fb
 clear hf
 generalize at_+((fby f).length:Int)-(f.dat.length:Int)=A at *
 generalize f.no=fno at *
 generalize f.ty=fty at *
 generalize f.num=num at *
 generalize f.dat.length=dl at *
 clear f;have r0:=hp2_0 w (.cells #[.int .i64 fno,.int .i64 fty,.int .u64 (num:Int),.slice da dl dc] 118) (.cells #[.int .u64 0,nS,nS] 27);have r1:=hp2_1 w (.cells #[.int .i64 fno,.int .i64 fty,.int .u64 (num:Int),.slice da dl dc] 118) (.cells #[.int .u64 0,nS,nS] 27)
 have hb:Below w.heap.size w ((w.alloc (.cells #[.int .i64 fno,.int .i64 fty,.int .u64 (num:Int),.slice da dl dc] 118)).alloc (.cells #[.int .u64 0,nS,nS] 27)):=((Below.refl _ _).alloc (Nat.le_refl _) _).alloc (by simp) _
 have hg0:=hg.keep hb;unfold ptr
 go_enter Tryz.func125,Tryz.ntmps125
 go_upto_region 1 with(fail)
 have hz:w.heap.size+1<((w.alloc (.cells #[.int .i64 fno,.int .i64 fty,.int .u64 (num:Int),.slice da dl dc] 118)).alloc (.cells #[.int .u64 0,nS,nS] 27)).heap.size:=by simp
 generalize (w.alloc (.cells #[.int .i64 fno,.int .i64 fty,.int .u64 (num:Int),.slice da dl dc] 118)).alloc (.cells #[.int .u64 0,nS,nS] 27)=w0 at *
 have hbd:Below w0.heap.size w0 w0.drew:=below_drN (Below.refl _ _) 1
 have hS0:(fun W_:World=>Bx W_ w.heap.size #[.int .i64 fno,.int .i64 fty,.int .u64 (num:Int),.slice da dl dc]∧Bx W_ g #[.slice so sn sc]) w0.drew:=⟨⟨_,keep hbd r0⟩,hg0.keep hbd⟩
 refine wp_region_held (S:=fun W_:World=>Bx W_ w.heap.size #[.int .i64 fno,.int .i64 fty,.int .u64 (num:Int),.slice da dl dc]∧Bx W_ g #[.slice so sn sc]) (by kernel_rfl) ?_
 change wpAnyH _ _ _ _ _ _ _ _ (World.drew _)
 replace r1:=keep hbd r1;replace hz:=Nat.lt_of_lt_of_le hz hbd.size;replace hb:=Below.after hb hbd;clear hg0 hbd r0
 generalize w0.drew=w1 at *
 refine wTy 0 (.slice so sn sc) rfl ?y1in hS0 ?r1in
 case y1in=>
  intro w_ hS_;obtain⟨_,h_⟩:=hS_.2;have c_:=cell_of_row _ _ 0 _ _ _ h_;go_simp
  try with_reducible rfl
 simp only[Act.put,ZPa,ZPc,ZPd,ZPe,ZPf];refine wTy 1 ?vfa rfl ?y2in hS0 ?r2in
 case y2in=>
  intro w_ hS_
  skip
  go_simp
  try with_reducible rfl
 simp only[Act.put,ZPa,ZPb,ZPc,ZPd,ZPe,ZPf];refine wTy 2 (.slice da dl dc) rfl ?y3in hS0 ?r3in
 case y3in=>
  intro w_ hS_;obtain⟨_,h_⟩:=hS_.1;have c_:=cell_of_row _ _ 3 _ _ _ h_;go_simp
  try with_reducible rfl
 simp only[Act.put,ZPa,ZPb,ZPc,ZPd,ZPe,ZPf]
 refine wTk (i:=3) (v:=.agg #[.int .i64 fno,.int .i64 fty,.int .u64 (num:Int),.slice da dl dc]) rfl (yieldsIf_load_mid (by rfl) 118 _ rfl (w.heap.size) 0 rfl [.int .i64 fno,.int .i64 fty,.int .u64 (num:Int),.slice da dl dc] _ (fun _ h=>range_row h.1) Tryz.underlying118 rfl infoFi) hS0 ?_
 simp only[Act.put,ZPa,ZPb,ZPc,ZPd,ZPe,ZPf];refine wTy 4 (.int .i64 at_) rfl ?y4in hS0 ?r4in
 case y4in=>
  intro w_ hS_
  skip
  go_simp
  try with_reducible rfl
 simp only[Act.put,ZPa,ZPb,ZPc,ZPd,ZPe,ZPf]
 refine wpAnyH_one (k:=5) (fuel:=2) (by kernel_rfl) rfl (by kernel_rfl) (fun K_ hK=>?_)
 refine wp_call_ex (R:=fun u w'=>u=.int .i64 A∧Below w1.heap.size w1 w') (by kernel_rfl) ((cD w1).mono fun e w' h=>⟨_,h.1,rfl,h.2⟩) (fun u w2 hX_=>?_)
 obtain⟨rfl,hb2⟩:=hX_;have hS2:_∧_:=⟨hS0.1.keep hb2,hS0.2.keep hb2⟩;replace r1:=keep hb2 r1;replace hz:=Nat.lt_of_lt_of_le hz hb2.size;replace hb:=Below.after hb hb2;refine hK _ _ hS2 ?_;simp only[Act.put,ZPa,ZPb,ZPc,ZPd,ZPe,ZPf];clear hK cD hS0 hb2;have cC:=hC _ hb;clear hC
 refine wpAnyH_one (k:=6) (fuel:=1) (by kernel_rfl) rfl (by kernel_rfl) (fun K_ hK=>?_)
 refine wp_call_upW (base:=w2.heap.size) (F:=F) (R:=fun v w'=>∃x,v=.agg (vrv x)∧VtO w' (fun b=>w2.heap.size≤b) x X) (B:=fun w'=>Below w2.heap.size w2 w') (by kernel_rfl) cC ?_ ?_
 ·rintro hF v_ w3 ⟨x,rfl,hvt⟩ hb3
  subst hF
  obtain⟨xn,xda,xdl,xdc,xpa,xpl,xpc⟩:=x;have hS3:_∧_:=⟨hS2.1.keep hb3,hS2.2.keep hb3⟩;replace r1:=keep hb3 r1;have szw:=hb.size;replace hb:=Below.after hb hb3;refine hK _ _ hS3 ?_;simp only[Act.put,ZPa,ZPb,ZPc,ZPd,ZPe,ZPf];clear hK hS2 hb3 cC
  have hone:(#[.int .u64 (xn:Int),.slice xda xdl xdc,.slice xpa xpl xpc]:Array Value).all (·.oneCell')=true:=by simp[Value.oneCell']
  refine wpAnyH_one (k:=7) (fuel:=0) (by kernel_rfl) rfl (by kernel_rfl) (fun K_ hK=>?_)
  refine wp_store_row 27 _ _ rfl (w.heap.size+1) #[.int .u64 (xn:Int),.slice xda xdl xdc,.slice xpa xpl xpc] rfl rfl 27 _ r1 infoV rfl hone ?_;have rF:=setRow_heap w3 (w.heap.size+1) _ #[.int .u64 (xn:Int),.slice xda xdl xdc,.slice xpa xpl xpc] _ _ r1
  have hS4:Bx (w3.setRow (w.heap.size+1) #[.int .u64 (xn:Int),.slice xda xdl xdc,.slice xpa xpl xpc]) w.heap.size #[.int .i64 fno,.int .i64 fty,.int .u64 (num:Int),.slice da dl dc]∧Bx (w3.setRow (w.heap.size+1) #[.int .u64 (xn:Int),.slice xda xdl xdc,.slice xpa xpl xpc]) g #[.slice so sn sc]:=⟨hS3.1.row (by omega),hS3.2.row (by have:=hg.lt;omega)⟩
  have hv4:VtO (w3.setRow (w.heap.size+1) #[.int .u64 (xn:Int),.slice xda xdl xdc,.slice xpa xpl xpc]) (fun b=>P b∨w.heap.size≤b) ⟨xn,xda,xdl,xdc,xpa,xpl,xpc⟩ X:=hvt.other _ _ (fun b hb_=>⟨by omega,.inr (by omega)⟩)
  have hb4:=below_setRow (g:=w.heap.size+1) hb (by omega) #[.int .u64 (xn:Int),.slice xda xdl xdc,.slice xpa xpl xpc]
  refine hK _ _ hS4 ?_;simp only[Act.put];clear hK hvt
  generalize w3.setRow (w.heap.size+1) #[.int .u64 (xn:Int),.slice xda xdl xdc,.slice xpa xpl xpc]=w4 at *
  refine wpAnyH_done (by kernel_rfl) ?_ _
  go_wp2_with (fail)
  exact bodyPost_ret (v:=.agg #[.int .u64 (xn:Int),.slice xda xdl xdc,.slice xpa xpl xpc]) (results_cell_row Tryz.results125 _ _ (w.heap.size+1) _ #[.int .u64 (xn:Int),.slice xda xdl xdc,.slice xpa xpl xpc] _ _ rfl rF Tryz.underlying27 rfl infoV) rfl ⟨⟨_,rfl,⟨xn,xda,xdl,xdc,xpa,xpl,xpc⟩,rfl,hv4⟩,hb4⟩
 ·intro y hF q w3 h1_ h2_ hb3
  subst hF
  have szw:=hb.size;replace hb:=Below.after hb hb3
  go_wp2_with (fail)
  exact⟨rfl,⟨q,rfl,by omega,h2_⟩,hb⟩
theorem a_slotDecodeT (no wt:Int) (k1 k2 k3:FuncId) (a1 a2 a3:Array Value) (fno fty:Int) (fnum:Nat) (da:Option Addr) (dl dc:Nat) (at_:Int) (F:Option Flt3) (P:Nat→Prop) (X:VT) (w:World) (hP:∀b,P b→b<w.heap.size)
 (hent:∀args W,(callFunc k3 args).run Tryz.prog W=.ok (.enter k3 args) W)
 (hC:∀V,Below w.heap.size w V→fno=no→fty=wt→Calls Tryz.prog k3 (#[.agg #[.int .i64 fno,.int .i64 fty,.int .u64 (fnum:Int),.slice da dl dc],.int .i64 at_]++a3) V (RdR V P F X)):
 Calls Tryz.prog 58 #[.agg #[.int .i64 no,.int .i64 wt,.func (.func k1) #[] a1,.func (.func k2) #[] a2,.func (.func k3) #[] a3],.agg #[.int .i64 fno,.int .i64 fty,.int .u64 (fnum:Int),.slice da dl dc],.int .i64 at_] w (RdR w P (if fno≠no then some ⟨0,at_,81⟩ else if fty≠wt then some ⟨0,at_,82⟩ else F) X):=by
 have r0:=hp3_0 w (.cells #[.int .i64 no,.int .i64 wt,.func (.func k1) #[] a1,.func (.func k2) #[] a2,.func (.func k3) #[] a3] 114) (.cells #[.int .i64 fno,.int .i64 fty,.int .u64 (fnum:Int),.slice da dl dc] 118) (.cells #[.int .u64 0,nS,nS] 27);have r1:=hp3_1 w (.cells #[.int .i64 no,.int .i64 wt,.func (.func k1) #[] a1,.func (.func k2) #[] a2,.func (.func k3) #[] a3] 114) (.cells #[.int .i64 fno,.int .i64 fty,.int .u64 (fnum:Int),.slice da dl dc] 118) (.cells #[.int .u64 0,nS,nS] 27);have r2:=hp3_2 w (.cells #[.int .i64 no,.int .i64 wt,.func (.func k1) #[] a1,.func (.func k2) #[] a2,.func (.func k3) #[] a3] 114) (.cells #[.int .i64 fno,.int .i64 fty,.int .u64 (fnum:Int),.slice da dl dc] 118) (.cells #[.int .u64 0,nS,nS] 27)
 have hb:Below w.heap.size w (((w.alloc (.cells #[.int .i64 no,.int .i64 wt,.func (.func k1) #[] a1,.func (.func k2) #[] a2,.func (.func k3) #[] a3] 114)).alloc (.cells #[.int .i64 fno,.int .i64 fty,.int .u64 (fnum:Int),.slice da dl dc] 118)).alloc (.cells #[.int .u64 0,nS,nS] 27)):=(((Below.refl _ _).alloc (Nat.le_refl _) _).alloc (by simp) _).alloc (by simp;omega) _
 have hsz3:w.heap.size+1+1<((((w.alloc (.cells #[.int .i64 no,.int .i64 wt,.func (.func k1) #[] a1,.func (.func k2) #[] a2,.func (.func k3) #[] a3] 114)).alloc (.cells #[.int .i64 fno,.int .i64 fty,.int .u64 (fnum:Int),.slice da dl dc] 118)).alloc (.cells #[.int .u64 0,nS,nS] 27))).heap.size:=by simp
 unfold RdR at *
 obtain⟨R,hR⟩:∃R,(if fno≠no then some ⟨0,at_,81⟩ else if fty≠wt then some ⟨0,at_,82⟩ else F)=R:=⟨_,rfl⟩
 rw[hR];have cC:=hC _ hb;replace hb:=hide hb;replace cC:=hide cC;replace hsz3:=hide hsz3;clear hC
 go_enter Tryz.func58,Tryz.ntmps58
 go_upto_region 1 with(fail)
 generalize (((w.alloc (.cells #[.int .i64 no,.int .i64 wt,.func (.func k1) #[] a1,.func (.func k2) #[] a2,.func (.func k3) #[] a3] 114)).alloc (.cells #[.int .i64 fno,.int .i64 fty,.int .u64 (fnum:Int),.slice da dl dc] 118)).alloc (.cells #[.int .u64 0,nS,nS] 27))=W3 at *
 have s0:=cell_of_row _ _ 0 _ _ _ r0;have s1:=cell_of_row _ _ 1 _ _ _ r0;have s4:=cell_of_row _ _ 4 _ _ _ r0;have f0:=cell_of_row _ _ 0 _ _ _ r1;have f1:=cell_of_row _ _ 1 _ _ _ r1
 by_cases hno:fno=no
 ·subst hno
  by_cases hty:fty=wt
  ·subst hty
   have eR:F=R:=by rw[←hR,if_neg (by simp),if_neg (by simp)]
   replace eR:=hide eR;replace cC:=hide (cC.out rfl rfl);clear hR;replace r2:=hide r2
   go_upto_region 5 with(fail)
   clear s0 s1 f0 f1
   repeat ((fail_if_success (refine wpList_load_want rfl 118 _ rfl (w.heap.size+1) rfl 118 #[.int .i64 fno,.int .i64 fty,.int .u64 (fnum:Int),.slice da dl dc] (0,0) _ r1 Tryz.underlying118 rfl infoFi ?_));first|go_skip|go_step)
   refine wpList_load_want rfl 118 _ rfl (w.heap.size+1) rfl 118 #[.int .i64 fno,.int .i64 fty,.int .u64 (fnum:Int),.slice da dl dc] (0,0) _ r1 Tryz.underlying118 rfl infoFi ?_
   try simp only[Act.put,ZPd,ZPe,ZPf]
   repeat ((fail_if_success (refine wpList_call_upW W3.heap.size F (fun v w'=>∃x,v=.agg (vrv x)∧VtO w' (fun b=>P b∨W3.heap.size≤b) x X) (fun w'=>Below W3.heap.size W3 w') rfl (run_call_val (.tmp 22) #[.tmp 23,.tmp 24] #[118,3] rfl rfl _ (by simp only[List.map_toArray,List.map_cons,List.map_nil];rfl) hent) cC.out ?_ ?_));first|go_skip|go_step)
   refine wpList_call_upW W3.heap.size F (fun v w'=>∃x,v=.agg (vrv x)∧VtO w' (fun b=>P b∨W3.heap.size≤b) x X) (fun w'=>Below W3.heap.size W3 w') rfl (run_call_val (.tmp 22) #[.tmp 23,.tmp 24] #[118,3] rfl rfl _ (by simp only[List.map_toArray,List.map_cons,List.map_nil];rfl) hent) cC.out ?_ ?_
   ·rintro hF v_ w4 ⟨x,rfl,hvt⟩ hb4
    subst hF
    obtain⟨xn,xda,xdl,xdc,xpa,xpl,xpc⟩:=x;have R4:=keep hb4 r2.out;have hw4:=Below.after hb.out hb4;have szW:=hsz3.out;have RF:=hide (setRow_heap _ (w.heap.size+1+1) _ #[.int .u64 (xn:Int),.slice xda xdl xdc,.slice xpa xpl xpc] _ _ R4)
    have hwF:=hide (below_setRow (g:=w.heap.size+1+1) hw4 (by omega) #[.int .u64 (xn:Int),.slice xda xdl xdc,.slice xpa xpl xpc])
    have hvF:Hid (VtO (w4.setRow (w.heap.size+1+1) #[.int .u64 (xn:Int),.slice xda xdl xdc,.slice xpa xpl xpc]) (fun b=>P b∨w.heap.size≤b) ⟨xn,xda,xdl,xdc,xpa,xpl,xpc⟩ X):=hide (hvt.other _ _ (fun b hb_=>by
     rcases hb_ with q|q
     ·exact⟨by have:=hP b q;omega,.inl q⟩
     ·exact⟨by omega,.inr (by omega)⟩))
    have hone:(#[.int .u64 (xn:Int),.slice xda xdl xdc,.slice xpa xpl xpc]:Array Value).all (·.oneCell')=true:=by simp[Value.oneCell']
    unfold vrv vrw;clear r1 r0 r2 hb cC hb4 hw4 s4 hvt hsz3 szW hP
    try simp only[Act.put,ZPd,ZPe,ZPf]
    go_wp2_with (first|(refine wpList_store_row rfl 27 _ _ rfl (w.heap.size+1+1) #[.int .u64 (xn:Int),.slice xda xdl xdc,.slice xpa xpl xpc] rfl rfl 27 _ R4 infoV rfl hone ?_)|fail)
    refine bodyPost_ret (v:=.agg #[.int .u64 (xn:Int),.slice xda xdl xdc,.slice xpa xpl xpc]) (results_cell_row Tryz.results58 _ _ (w.heap.size+1+1) _ _ _ _ rfl RF.out Tryz.underlying27 rfl infoV) rfl ⟨?_,hwF.out⟩;rw[←eR.out];exact⟨_,rfl,⟨xn,xda,xdl,xdc,xpa,xpl,xpc⟩,rfl,hvF.out⟩
   ·intro x hF g w4 h1 h2 hb4
    subst hF
    have szw:=hb.out.size;have hw4:=Below.after hb.out hb4
    go_wp2_with (fail)
    rw[←eR.out]
    exact⟨rfl,⟨g,rfl,by omega,h2⟩,hw4⟩
  ·have eR:R=some ⟨0,at_,82⟩:=by rw[←hR,if_neg (by simp),if_pos hty]
   have hd:(fty==wt)=false:=by simpa using hty
   replace eR:=hide eR;clear hR cC r0 r1 r2
   go_wp2_with (fail)
   refine(a_giveUp 0 at_ 82 _).mono ?_;rintro e_ w2 ⟨hg,hb2⟩;obtain⟨g,rfl,hgl,hgr⟩:=hg;have szw:=hb.out.size;have hw:=Below.after hb.out hb2;clear hb
   go_wp2
   rw[eR.out];exact⟨rfl,⟨g,rfl,Nat.le_trans szw hgl,hgr⟩,hw⟩
 ·have eR:R=some ⟨0,at_,81⟩:=by rw[←hR,if_pos hno]
  have hd:(fno==no)=false:=by simpa using hno
  replace eR:=hide eR;clear hR cC r0 r1 r2
  go_wp2_with (fail)
  refine(a_giveUp 0 at_ 81 _).mono ?_;rintro e_ w2 ⟨hg,hb2⟩;obtain⟨g,rfl,hgl,hgr⟩:=hg;have szw:=hb.out.size;have hw:=Below.after hb.out hb2;clear hb
  go_wp2
  rw[eR.out];exact⟨rfl,⟨g,rfl,Nat.le_trans szw hgl,hgr⟩,hw⟩
def DeR (w:World) (F:Option Flt3) (X:VT) (e:Ending) (w':World):Prop:=Gup w.heap.size F e w' (fun v=>∃x,v=.agg (vrv x)∧VtO w' (fun b=>w.heap.size≤b) x X)∧Below w.heap.size w w'
theorem own_capT {W:World} {b:Nat} {a:Option Addr} {l c:Nat} {d:List B} (h:Own W b (.slice a l c) d):l≤c:=by
 obtain⟨_,⟨e,_⟩|⟨g,cap,cur,e,_,_,hn,_⟩⟩:=h
 ·cases e;exact Nat.le_refl _
 ·cases e;exact hn
theorem its_item {W:World} {b:Nat} {v:Value} {us:List Value} {ps:List (List B)} (h:Its W b v us ps) {i:Nat} (hi:i<ps.length):∃gx off xc uo uc,v=.slice (some ⟨gx,off,none⟩) ps.length xc∧W.cell? ⟨gx,off+i,none⟩=some (gv us i)∧gv us i=.slice uo (gp ps i).length uc∧Own W b (gv us i) (gp ps i):=by
 obtain⟨h1,h2,h3,_⟩:=h
 obtain⟨uo,uc,hu⟩:=slen_own (h3 i (by omega))
 rcases h1.2 with⟨_,h0⟩|⟨g,cp,cur,p2,pb,pg,p3⟩
 ·omega
 ·have:=h1.cells (g:=g) (by rw[p2];rfl) i (gv us i) (by rw[gv,List.getD_eq_getElem?_getD,List.getElem?_eq_getElem (by omega)];rfl)
  rw[addr_add] at this
  exact⟨g,0,cp,uo,uc,by rw[p2,h2],this,hu,h3 i (by omega)⟩
theorem spl_er_b:∀(f p c:Nat) (l:List B) (e:Int) (q:Nat),spl f p c l=.er e q→e≠0∧q≤p+l.length
 |0,p,c,l,e,q,h=>by rw[spl] at h;cases h
 |f+1,p,c,l,e,q,h=>by
  rw[spl] at h
  by_cases h0:l=[]
  ·rw[if_pos h0] at h;cases h
  rw[if_neg h0] at h
  by_cases h1:c=4096
  ·rw[if_pos h1] at h
   injection h with h2 h3
   exact⟨by omega,by omega⟩
  rw[if_neg h1] at h
  cases hr:ri l with
  |er e'=>
   rw[hr] at h
   injection h with h2 h3
   exact⟨by have:=ri_er hr;omega,by omega⟩
  |ok x n=>
   rw[hr] at h;simp only at h;obtain⟨r1,r2,r3,r4,r5⟩:=ri_ok hr
   cases hs:spl f (p+n) (c+1) (l.drop n) with
   |ok qs=>rw[hs] at h;cases h
   |er e' q'=>
    rw[hs] at h
    injection h with h2 h3
    have:=spl_er_b f (p+n) (c+1) (l.drop n) e' q' hs;rw[List.length_drop] at this
    exact⟨by omega,by omega⟩
theorem spa_bd (d:List B):0≤spa (sp d)∧spa (sp d)≤4194304:=by
 unfold sp
 by_cases h:4194304<d.length
 ·rw[if_pos h];exact⟨by decide,by decide⟩
 ·rw[if_neg h]
  cases hr:spl d.length 0 0 d with
  |ok ps=>exact⟨by show(0:Int)≤0;omega,by show(0:Int)≤4194304;omega⟩
  |er e q=>
   have:=(spl_er_b _ _ _ _ _ _ hr).2
   exact⟨by show(0:Int)≤(q:Int);omega,by show(q:Int)≤4194304;omega⟩
theorem bdrop (bss:List (List B)) (k:Nat) (h:k<bss.length):bss.drop k=gp bss k::bss.drop (k+1):=by
 rw[List.drop_eq_getElem_cons h,gp,List.getD_eq_getElem?_getD,List.getElem?_eq_getElem h];rfl
theorem btake {α:Type} (dv:List B→α) (bss:List (List B)) (k:Nat) (h:k<bss.length):(bss.take (k+1)).map dv=(bss.take k).map dv++[dv (gp bss k)]:=by
 rw[take_snoc bss k h,List.map_append];rfl
theorem a_decodeAll (dec:List B→Int→Option Flt3) (dv:List B→VT) (so:Option Addr) (sn sc:Nat) (iv:Value) (us:List Value) (bss:List (List B)) (b0:Nat) (from_:Int) (w:World) (hI:Its w b0 iv us bss) (hn:bss.length≤4096) (hJ:(jn bss).length≤4194304) (hfr:0≤from_∧from_+((jn bss).length:Int)≤1152921504606846976)
 (hC:∀V b bv f,Below w.heap.size w V→BysB V bv b→(∀a l c,bv=.slice a l c→l≤c)→0≤f→f+(b.length:Int)≤1152921504606846976→Calls Tryz.prog 38 #[.slice so sn sc,bv,.int .i64 f] V (DeR V (dec b f) (dv b))):
 Calls Tryz.prog 133 #[.slice so sn sc,iv,.int .i64 from_] w (DeR w (itN dec bss from_) (.mk 0 [] (bss.map dv))):=by
 obtain⟨R,hR⟩:∃R,itN dec bss from_=R:=⟨_,rfl⟩
 unfold DeR at *
 rw[hR];have rZ:=hp1_0 w (.cells #[.int .u64 0,nS,nS] 27);have hb0:Below w.heap.size w (w.alloc (.cells #[.int .u64 0,nS,nS] 27)):=(Below.refl _ _).alloc (Nat.le_refl _) _
 have hz0:(w.alloc (.cells #[.int .u64 0,nS,nS] 27)).heap.size=w.heap.size+1:=by simp
 obtain⟨ivo,ivc,rfl⟩:∃ivo ivc,iv=.slice ivo bss.length ivc:=by
  obtain⟨h1,h2,_⟩:=hI
  obtain⟨_,⟨rfl,h0⟩|⟨g,cap,cur,rfl,_⟩⟩:=h1
  ·exact⟨none,0,by rw[←h2,h0]⟩
  ·exact⟨_,_,by rw[h2]⟩
 have hI0:=hide (hI.keep hb0);have HC:=hide hC;have eR:Hid (R=itN dec (bss.drop 0) from_):=hide hR.symm;have hJ0:from_+((jn (bss.drop 0)).length:Int)≤1152921504606846976:=hfr.2;replace hb0:=hide hb0;clear hI hC hR
 go_enter Tryz.func133,Tryz.ntmps133
 go_upto_region 2 with(fail)
 generalize w.alloc (.cells #[.int .u64 0,nS,nS] 27)=w0 at *
 go_wp2_with (fail)
 go_loopw [12,9,7,2] (fun i _ pv fr wr=>∃(k:Nat) (F:Int) (xs:List VR),k≤bss.length∧i=.int .i64 k∧fr=.int .i64 F∧0≤F∧F+((jn (bss.drop k)).length:Int)≤1152921504606846976∧R=itN dec (bss.drop k) F∧PaW wr w0.heap.size w0.heap.size pv xs ((bss.take k).map dv)∧Below w0.heap.size w0 wr) (fun i _ _ _ _=>bss.length-(intOf i).toNat)
 case atStart=>exact⟨0,from_,[],by omega,rfl,rfl,hfr.1,hJ0,eR.out,paw_nil _ _ _,Below.refl _ _⟩
 case round=>
  clear eR hJ0 hfr;obtain⟨k,F,xs,hk,rfl,rfl,hF0,hF1,eR,hP,hby⟩:=hrel
  generalize u7=pv at *
  have hlk:((bss.take k).map dv).length=k:=by rw[List.length_map,List.length_take];omega
  by_cases hlt:k<bss.length
  ·have hd2:decide ((k:Int)<(bss.length:Int))=true:=by simp;omega
   have hmap:=hide (btake dv bss k hlt)
   have hJk:(jn (bss.drop k)).length=(en (gp bss k).length).length+(gp bss k).length+(jn (bss.drop (k+1))).length:=by rw[bdrop bss k hlt,jn,List.length_append,itm_len]
   have hJl:(jn (bss.drop k)).length≤4194304:=by
    have:(jn bss).length=(jn (bss.take k)).length+(jn (bss.drop k)).length:=by rw[←List.length_append,←jn_app,List.take_append_drop]
    omega
   have eR2:R=match dec (gp bss k) (F+((en (gp bss k).length).length:Int)) with
    |some e=>some e
    |none=>itN dec (bss.drop (k+1)) (F+((en (gp bss k).length).length:Int)+((gp bss k).length:Int)):=by
    rw[eR,bdrop bss k hlt,itN]
    all_goals rfl
   clear eR;obtain⟨gx,off,xc,uo,uc,ei,hcell,hgv,hOw⟩:=its_item (hI0.out.keep hby) hlt
   injection ei with ei1 ei2 ei3
   subst ei1 ei3;rw[hgv] at hcell hOw
   have hBb:=hOw.bysB (by omega)
   have hcb:=own_capT hOw
   have cC:=fun V (hV:Below wr.heap.size wr V)=>HC.out V (gp bss k) (.slice uo (gp bss k).length uc) (F+((en (gp bss k).length).length:Int)) (hb0.out.trans ((Below.after hby hV).mono (by omega))) (hBb.keep hV) (fun a l c e=>by cases e;exact hcb) (by omega) (by omega)
   have cS:=a_sizeX (gp bss k).length (by omega)
   obtain⟨Fk,hFk⟩:∃Fk,dec (gp bss k) (F+((en (gp bss k).length).length:Int))=Fk:=⟨_,rfl⟩;rw[hFk] at eR2 cC;replace cC:=hide cC;replace eR2:=hide eR2;clear hFk HC hI0 hgv hOw hBb hcb
   generalize dv (gp bss k)=Xk at *
   generalize (gp bss k).length=L at *
   generalize ((en L).length)=H at *
   have q0:IntKind.wrap .u64 (L:Int)=(L:Int):=by show(L:Int)%18446744073709551616=L;omega
   have q1:IntKind.wrap .i64 (F+(H:Int))=F+(H:Int):=by rw[IntKind.wrap_i64];omega
   have q2:IntKind.wrap .i64 (F+(H:Int)+(L:Int))=F+(H:Int)+(L:Int):=by rw[IntKind.wrap_i64];omega
   replace hJk:=hide hJk;replace hby:=hide hby;replace hP:=hide hP
   go_wp2_with (fail)
   refine(cS wr).mono ?_;rintro e_ w1 ⟨_,rfl,rfl,hb1⟩;have cC1:=cC.out w1 hb1;clear cC cS hcell
   go_wp2_with (fail)
   refine cC1.mono ?_;rintro e_ w2 ⟨hG,hb2⟩;have szr:=hby.out.size;have sz1:=hb1.size;have hb12:=Below.after hb1 hb2;have sz2:=hb2.size;have hP2:=hP.out.keep hb12;have hby2:=Below.after hby.out hb12;have hpo:=own_high_row hP.out.1;clear cC1 hP hby hb1 hb2
   cases Fk with
   |some fl=>
    obtain⟨q,rfl,h1_,h2_⟩:=hG
    go_wp2
    rw[eR2.out]
    exact⟨rfl,⟨q,rfl,by omega,h2_⟩,hb0.out.trans (hby2.mono (by omega))⟩
   |none=>
    obtain⟨v,rfl,x,rfl,hvt⟩:=hG;have eR3:Hid (R=itN dec (bss.drop (k+1)) (F+(H:Int)+(L:Int))):=hide eR2.out;clear eR2
    have hvx:VtO w2 (fun b=>w0.heap.size≤b∧pv.ownBlock≠some b) x Xk:=hvt.wid (fun b hb_=>⟨by omega,fun e=>by have:=(hpo b e).2;omega⟩)
    obtain⟨xn,xda,xdl,xdc,xpa,xpl,xpc⟩:=x;clear hvt hb12;replace hP2:=hide hP2;replace hvx:=hide hvx;replace hby2:=hide hby2;unfold vrv vrw
    go_wp2_with (first|(refine wpList_plain rfl fun K_ hK=>?_;refine wp_world_op (.slice (some ⟨w2.heap.size,0,none⟩) 1 1) (w2.alloc (.cells #[.int .u64 (xn:Int),.slice xda xdl xdc,.slice xpa xpl xpc] 27)) (op_bv1 _ rfl _ _ _ rfl) ?_;refine hK _ _ ?_;clear hK;refine wpList_stay ?_)|fail)
    unfold WpStay;have NV:=new_cells4 w2 #[.int .u64 (xn:Int),.slice xda xdl xdc,.slice xpa xpl xpc] 27;have hb_:Below w2.heap.size w2 (w2.alloc (.cells #[.int .u64 (xn:Int),.slice xda xdl xdc,.slice xpa xpl xpc] 27)):=(Below.refl _ _).alloc (Nat.le_refl _) _;have hP3:=hP2.out.keep hb_;have hvx3:=hvx.out.blw hb_;have hby3:=Below.after hby2.out hb_;have sz3:=hby3.size;clear hP2 hvx hby2 hb_
    try simp only[Act.put,ZPa,ZPb,ZPc,ZPd,ZPe,ZPf]
    generalize w2.alloc (.cells #[.int .u64 (xn:Int),.slice xda xdl xdc,.slice xpa xpl xpc] 27)=w3 at *
    generalize w2.heap.size=gV at *
    obtain⟨iV,hiV,hiz,his,hib⟩:=infoVI;have hOk:=hP3.1;rw[hlk] at hOk;have hpo3:=own_high_row hOk
    refine wpList_plain rfl fun K_ hK=>?_
    refine wp_append_nx _ _ 25 rfl w0.heap.size 27 iV (.agg #[.int .u64 0,nS,nS]) 3 56 Tryz.underlying25 hiV hiz his hib rfl (by decide) pv k (vrs xs) rfl hOk ⟨gV,0,none⟩ 1 1 [.int .u64 (xn:Int),.slice xda xdl xdc,.slice xpa xpl xpc] rfl rfl NV (fun x hx=>?_) (by unfold maxLen;omega) (by omega) sz3 (fun pv' w4 hO4 hgr hnx=>?_)
    ·simp at hx
     rcases hx with rfl|rfl|rfl<;>rfl
    have hP4:=hP3.snoc hvx3 (by rw[hlk];exact hO4) hgr hnx
    have hby4:=hby3.grown hgr sz3 (fun z e=>(hpo3 z e).1)
    refine hK _ _ ?_;clear hK hP3 hvx3 hby3 hOk hO4 hgr hnx NV hpo hpo3;simp only[Act.put,ZPd,ZPe,ZPf];replace hP4:=hide hP4;replace hby4:=hide hby4
    go_wp2_with (fail)
    refine⟨⟨k+1,F+(H:Int)+(L:Int),_,by omega,by go_num,rfl,by omega,by have:=hJk.out;omega,eR3.out,by rw[hmap.out];exact hP4.out,hby4.out⟩,?_⟩
    simp[intOf];omega
  ·obtain rfl:k=bss.length:=by omega
   have hd2:decide ((bss.length:Int)<(bss.length:Int))=false:=by simp
   have eR2:R=none:=by rw[eR,List.drop_length,itN]
   replace eR2:=hide eR2;rw[List.take_length] at hP
   obtain⟨pa,pc,epv,hmsg⟩:=hP.msg (Nat.le_refl _) (by rw[List.length_map];omega)
   rw[List.length_map] at epv hmsg;subst epv
   have rZ3:=(hby.block w.heap.size (by omega)).trans rZ
   have hone:(#[.int .u64 0,nS,.slice pa bss.length pc]:Array Value).all (·.oneCell')=true:=by simp[Value.oneCell']
   have RF:=hide (setRow_heap wr w.heap.size _ #[.int .u64 0,nS,.slice pa bss.length pc] _ _ rZ3)
   have hwF:=hide (below_setRow (g:=w.heap.size) (hb0.out.trans (hby.mono (by omega))) (Nat.le_refl _) #[.int .u64 0,nS,.slice pa bss.length pc])
   have hvF:Hid (VtO (wr.setRow w.heap.size #[.int .u64 0,nS,.slice pa bss.length pc]) (fun b=>w.heap.size≤b) ⟨0,none,0,0,pa,bss.length,pc⟩ (.mk 0 [] (bss.map dv))):=hide (hmsg.other _ _ (fun b hb_=>⟨by omega,by omega⟩))
   clear eR hP hby hmsg HC hI0 hlk
   go_wp2_with (first|(refine wpList_store_row rfl 27 _ _ rfl w.heap.size #[.int .u64 0,nS,.slice pa bss.length pc] rfl rfl 27 _ rZ3 infoV rfl hone ?_)|fail)
   refine bodyPost_ret (v:=.agg #[.int .u64 0,nS,.slice pa bss.length pc]) (results_cell_row Tryz.results133 _ _ w.heap.size _ _ _ _ rfl RF.out Tryz.underlying27 rfl infoV) rfl ⟨?_,hwF.out⟩;rw[eR2.out];exact⟨_,rfl,⟨0,none,0,0,pa,bss.length,pc⟩,rfl,hvF.out⟩
theorem a_listed3 (P:Nat→Prop) (f:Fd) (da:Option Addr) (dc:Nat) (at_:Int) (g1 g2:Nat) (y:Value) (l m:Nat) (so:Option Addr) (sn sc:Nat) (w:World) (dec:List B→Int→Option Flt3) (dv:List B→VT) (hf:Fdk w P f da dc at_) (hty:f.ty=2) (h1:Bx w g1 #[.int .u64 (l:Int),.int .u64 (m:Int),y]) (h2:Bx w g2 #[.slice so sn sc])
 (hC:∀V b bv f,Below w.heap.size w V→BysB V bv b→(∀a l c,bv=.slice a l c→l≤c)→0≤f→f+(b.length:Int)≤1152921504606846976→Calls Tryz.prog 38 #[.slice so sn sc,bv,.int .i64 f] V (DeR V (dec b f) (dv b))):
 Calls Tryz.prog 131 #[.agg #[.int .i64 f.no,.int .i64 f.ty,.int .u64 (f.num:Int),.slice da f.dat.length dc],.int .i64 at_,ptr g1,ptr g2] w (RdR w P (lsN l m dec f.dat at_ (at_+((fby f).length:Int)-(f.dat.length:Int))) (.mk 0 [] ((spp (sp f.dat)).map dv))):=by
 have cD:=a_dataOf f da dc at_ ⟨hf.a0,by have:=hf.a1;omega⟩ hf.ok hf.no0 hf.no1 hf.kn hf.fb
 have cS:=fun V (hV:Below w.heap.size w V)=>a_split f.dat V (.slice da f.dat.length dc) (hf.hB.keep hV) (fun a l c e=>by cases e;exact hf.hc)
 have hle:=fby_dat hty;have hfb:=hf.fb
 have hA0:0≤at_+((fby f).length:Int)-(f.dat.length:Int):=by have:=hf.a0;omega
 have hA1:at_+((fby f).length:Int)-(f.dat.length:Int)+(f.dat.length:Int)≤1152921504606846976:=by have:=hf.a1;omega
 have hsp:spe (sp f.dat)=0→(spp (sp f.dat)).length≤4096∧jn (spp (sp f.dat))=f.dat:=by
  intro h
  unfold sp at h⊢
  by_cases hb:4194304<f.dat.length
  ·rw[if_pos hb] at h
   exact absurd h (by decide)
  ·rw[if_neg hb] at h⊢
   cases hr:spl f.dat.length 0 0 f.dat with
   |ok ps=>
    have q:=spl_ok _ _ _ _ _ (Nat.le_refl _) (by omega) hr
    exact⟨by show ps.length≤4096;omega,q.1⟩
   |er e p=>
    exfalso
    rw[hr] at h;exact(spl_er_b _ _ _ _ _ _ hr).1 h
 have hpl:0≤spa (sp f.dat)∧spa (sp f.dat)≤4194304:=spa_bd f.dat;obtain⟨R,hR⟩:∃R,lsN l m dec f.dat at_ (at_+((fby f).length:Int)-(f.dat.length:Int))=R:=⟨_,rfl⟩;rw[hR];unfold lsN at hR;unfold RdR;clear hf hty
 generalize at_+((fby f).length:Int)-(f.dat.length:Int)=A at *
 generalize (fby f).length=FL at *
 generalize f.no=fno at *
 generalize f.ty=fty at *
 generalize f.num=num at *
 generalize hdd:f.dat=d at *
 clear hdd f
 generalize hdl:d.length=dl at *
 generalize hspp:spp (sp d)=bss at *
 generalize spa (sp d)=pl at *
 generalize hspe:spe (sp d)=E at *
 clear hspe;replace hspp:=hide hspp;have r0:=hp2_0 w (.cells #[.int .i64 fno,.int .i64 fty,.int .u64 (num:Int),.slice da dl dc] 118) (.cells #[.int .u64 0,nS,nS] 27);have r1:=hp2_1 w (.cells #[.int .i64 fno,.int .i64 fty,.int .u64 (num:Int),.slice da dl dc] 118) (.cells #[.int .u64 0,nS,nS] 27)
 have hb:Below w.heap.size w ((w.alloc (.cells #[.int .i64 fno,.int .i64 fty,.int .u64 (num:Int),.slice da dl dc] 118)).alloc (.cells #[.int .u64 0,nS,nS] 27)):=((Below.refl _ _).alloc (Nat.le_refl _) _).alloc (by simp) _
 have hz:w.heap.size+1<((w.alloc (.cells #[.int .i64 fno,.int .i64 fty,.int .u64 (num:Int),.slice da dl dc] 118)).alloc (.cells #[.int .u64 0,nS,nS] 27)).heap.size:=by simp
 have infoLs:(Tryz.prog.info? 190).map (·.size)=some 3:=by kernel_rfl
 unfold ptr
 go_enter Tryz.func131,Tryz.ntmps131
 go_upto_region 1 with(fail)
 generalize (w.alloc (.cells #[.int .i64 fno,.int .i64 fty,.int .u64 (num:Int),.slice da dl dc] 118)).alloc (.cells #[.int .u64 0,nS,nS] 27)=w0 at *
 go_wp2_with (first|(refine wpList_load_want rfl 118 _ rfl w.heap.size rfl 118 #[.int .i64 fno,.int .i64 fty,.int .u64 (num:Int),.slice da dl dc] (0,0) _ r0 Tryz.underlying118 rfl infoFi ?_)|fail)
 refine(cD w0).mono ?_;rintro e_ w1 ⟨rfl,hb1⟩;replace r0:=keep hb1 r0;replace r1:=keep hb1 r1;replace hz:=Nat.lt_of_lt_of_le hz hb1.size;replace hb:=Below.after hb hb1;have c3:=cell_of_row _ _ 3 _ _ _ r0;have cS1:=cS w1 hb;clear hb1 cD cS
 go_wp2_with (fail)
 refine cS1.mono ?_;rintro e_ w2 ⟨u,us,rfl,hI,hb2⟩;replace r1:=keep hb2 r1;replace hz:=Nat.lt_of_lt_of_le hz hb2.size;replace hb:=Below.after hb hb2;obtain⟨iv,hiv⟩:∃iv,u=iv:=⟨_,rfl⟩;subst hiv;clear hb2 cS1 c3 r0
 by_cases hE:E=0
 ·subst hE
  obtain⟨hbn,hjn⟩:=hsp rfl
  obtain⟨ivo,ivc,rfl⟩:∃ivo ivc,u=.slice ivo bss.length ivc:=by
   obtain⟨h1,h2,_⟩:=hI
   obtain⟨_,⟨rfl,h0⟩|⟨g,cap,cur,rfl,_⟩⟩:=h1
   ·exact⟨none,0,by rw[←h2,h0]⟩
   ·exact⟨_,_,by rw[h2]⟩
  obtain⟨W2,hW2⟩:∃W2,wth (bss.length:Int) (l:Int) (m:Int)=W2:=⟨_,rfl⟩
  have cL:=a_lfits (bss.length:Int) (l:Int) (m:Int) (by omega) y
  have h1':=h1.keep hb;obtain⟨T1,h1'⟩:=h1'
  rw[if_neg (by simp),hW2] at hR
  rw[hW2] at cL;clear hsp hW2
  go_wp2_with (first|(refine wpList_load_want rfl 190 _ rfl g1 rfl T1 #[.int .u64 (l:Int),.int .u64 (m:Int),y] (0,0) _ h1' Tryz.underlying190 rfl infoLs ?_)|fail)
  refine(cL w2).mono ?_;rintro e_ w3 ⟨rfl,hb3⟩;replace r1:=keep hb3 r1;replace hz:=Nat.lt_of_lt_of_le hz hb3.size;replace hb:=Below.after hb hb3;replace hI:=hI.keep hb3;clear cL hb3 h1'
  by_cases hW:W2=0
  ·subst hW
   rw[if_neg (by simp)] at hR
   obtain⟨T2,h2'⟩:=h2.keep hb;have cg2:=cell_of_row _ _ 0 _ _ _ h2'
   have cA:=a_decodeAll dec dv so sn sc (.slice ivo bss.length ivc) us bss _ A w3 hI hbn (by rw[hjn];omega) (by rw[hjn];exact⟨hA0,by rw[hdl];exact hA1⟩) (fun V b bv f hV=>hC V b bv f (Below.after hb hV))
   replace cA:=hide cA;replace hb:=hide hb;clear hI hjn
   go_wp2_with (fail)
   refine cA.out.mono ?_;rintro e_ w4 ⟨hG,hb4⟩;replace r1:=keep hb4 r1;have szb:=hb.out.size;replace hb:=Below.after hb.out hb4;clear cA h2' cg2 hb4;rw[hR] at hG
   cases R with
   |some fl=>
    obtain⟨q,rfl,h1_,h2_⟩:=hG
    go_wp2
    exact⟨rfl,⟨q,rfl,by omega,h2_⟩,hb⟩
   |none=>
    obtain⟨v,rfl,⟨xn,xda,xdl,xdc,xpa,xpl,xpc⟩,rfl,hvt⟩:=hG
    have hone:(#[.int .u64 (xn:Int),.slice xda xdl xdc,.slice xpa xpl xpc]:Array Value).all (·.oneCell')=true:=by simp[Value.oneCell']
    have RF:=hide (setRow_heap w4 (w.heap.size+1) _ #[.int .u64 (xn:Int),.slice xda xdl xdc,.slice xpa xpl xpc] _ _ r1)
    have hwF:=hide (below_setRow (g:=w.heap.size+1) hb (by omega) #[.int .u64 (xn:Int),.slice xda xdl xdc,.slice xpa xpl xpc])
    have hvF:Hid (VtO (w4.setRow (w.heap.size+1) #[.int .u64 (xn:Int),.slice xda xdl xdc,.slice xpa xpl xpc]) (fun b=>P b∨w.heap.size≤b) ⟨xn,xda,xdl,xdc,xpa,xpl,xpc⟩ (.mk 0 [] (bss.map dv))):=hide (hvt.other _ _ (fun b hb_=>⟨by omega,.inr (by omega)⟩))
    clear hvt hb;unfold vrv vrw
    go_wp2_with (first|(refine wpList_store_row rfl 27 _ _ rfl (w.heap.size+1) #[.int .u64 (xn:Int),.slice xda xdl xdc,.slice xpa xpl xpc] rfl rfl 27 _ r1 infoV rfl hone ?_)|fail)
    exact bodyPost_ret (v:=.agg #[.int .u64 (xn:Int),.slice xda xdl xdc,.slice xpa xpl xpc]) (results_cell_row Tryz.results131 _ _ (w.heap.size+1) _ _ _ _ rfl RF.out Tryz.underlying27 rfl infoV) rfl ⟨⟨_,rfl,⟨xn,xda,xdl,xdc,xpa,xpl,xpc⟩,rfl,hvF.out⟩,hwF.out⟩
  ·rw[if_pos hW] at hR
   have hd1:(W2==0)=false:=by simpa using hW
   have eR:=hide hR.symm;clear hR hI r1
   go_wp2_with (fail)
   refine(a_giveUp 0 at_ W2 _).mono ?_;rintro e_ x2 ⟨⟨q,rfl,hql,hqr⟩,hbx⟩;have szx:=hb.size;replace hb:=Below.after hb hbx
   go_wp2
   rw[eR.out]
   exact⟨rfl,⟨q,rfl,by omega,hqr⟩,hb⟩
 ·rw[if_pos hE] at hR
  have hd1:(E==0)=false:=by simpa using hE
  have eR:=hide hR.symm
  have q1:IntKind.wrap .i64 (A+pl)=A+pl:=by rw[IntKind.wrap_i64];omega
  clear hR hI r1 hsp
  go_wp2_with (fail)
  refine(a_giveUp 0 (A+pl) E _).mono ?_;rintro e_ x2 ⟨⟨q,rfl,hql,hqr⟩,hbx⟩;have szx:=hb.size;replace hb:=Below.after hb hbx
  go_wp2
  rw[eR.out]
  exact⟨rfl,⟨q,rfl,by omega,hqr⟩,hb⟩
end Go.Proofs.YtmmlkfkpblokiaaGreatDoor
