import Derived.Test.YtmmlkfkpblokiaaGreatDoorQzWr
set_option maxRecDepth 100000
set_option maxHeartbeats 16000000
namespace Go.Proofs.YtmmlkfkpblokiaaGreatDoor
open Go Go.RowKit Go.Sort
attribute [local go_sem] setCell_drewN alloc_drewN
inductive RI where
 |er (e:Int)
 |ok (p:List B) (n:Nat)
def ri (l:List B):RI:=match rd 0 l with
 | .er e=>.er e
 | .ok v n=>if l.length-n<v then .er 73 else .ok ((l.drop n).take v) (n+v)
inductive RS where
 |er (e:Int) (p:Nat)
 |ok (ps:List (List B))
def RS.cons (p:List B):RS→RS
 | .er e q=>.er e q
 | .ok l=>.ok (p::l)
def spl:Nat→Nat→Nat→List B→RS
 |0,_,_,_=>.ok []
 |f+1,p,c,l=>if l=[] then .ok [] else if c=4096 then .er 2 p else match ri l with
  | .er e=>.er e p
  | .ok x n=>(spl f (p+n) (c+1) (l.drop n)).cons x
theorem ri_ok {l p:List B} {n:Nat} (h:ri l=.ok p n):0<n∧n≤l.length∧n=(itm p).length∧l=itm p++l.drop n∧p.length≤l.length:=by
 unfold ri at h
 cases hr:rd 0 l with
 |er e=>rw[hr] at h;cases h
 |ok v m=>
  rw[hr] at h;obtain⟨⟨r,h1⟩,h2,h3⟩:=rd0_ok hr;have hl:=rd0_len hr;simp only at h
  split at h
  ·cases h
  ·rename_i hv
   injection h with e1 e2
   have hd:l.drop m=r:=by rw[h1,h2,List.drop_left]
   have hrl:v≤r.length:=by rw[←hd,List.length_drop];omega
   have hpl:p.length=v:=by rw[←e1,hd,List.length_take];omega
   have hit:itm p=en v++r.take v:=by rw[itm,hpl,←e1,hd]
   refine⟨by omega,by omega,?_,?_,by rw[hpl];omega⟩
   ·rw[hit,List.length_append,List.length_take];omega
   ·rw[hit,←e2,←List.drop_drop,hd,List.append_assoc,List.take_append_drop]
    exact h1
theorem ri_er {l:List B} {e:Int} (h:ri l=.er e):e=70∨e=73:=by
 unfold ri at h
 cases hr:rd 0 l with
 |er e'=>rw[hr] at h;injection h with h;subst h;exact rd_er _ _ _ hr
 |ok v m=>
  rw[hr] at h;simp only at h
  split at h
  ·injection h with h;exact .inr h.symm
  ·cases h
theorem spl_more:∀(f:Nat) (p c:Nat) (l:List B),l.length≤f→spl f p c l=spl l.length p c l
 |0,p,c,l,h=>by
  have:l.length=0:=by omega
  rw[this]
 |f+1,p,c,l,h=>by
  cases hl:l.length with
  |zero=>
   have:l=[]:=List.eq_nil_of_length_eq_zero hl;subst this
   simp[spl]
  |succ g=>
   have hne:l≠[]:=by intro e;rw[e] at hl;cases hl
   rw[spl,spl,if_neg hne,if_neg hne]
   by_cases hc:c=4096
   ·rw[if_pos hc,if_pos hc]
   ·rw[if_neg hc,if_neg hc]
    cases hr:ri l with
    |er e=>rfl
    |ok x n=>
     have h1:=ri_ok hr;simp only
     rw[spl_more f _ _ (l.drop n) (by rw[List.length_drop];omega),spl_more g _ _ (l.drop n) (by rw[List.length_drop];omega)]
def sp (l:List B):RS:=if 4194304<l.length then .er 2 0 else spl l.length 0 0 l
def RS.after (ps:List (List B)):RS→RS
 | .er e q=>.er e q
 | .ok l=>.ok (ps++l)
theorem after_cons (ps:List (List B)) (p:List B) (r:RS):(r.cons p).after ps=r.after (ps++[p]):=by
 cases r<;>simp[RS.cons,RS.after]
theorem spl_step {p c:Nat} {l:List B} (h0:l≠[]) (hc:c≠4096) {x:List B} {n:Nat} (hr:ri l=.ok x n):spl l.length p c l=(spl (l.drop n).length (p+n) (c+1) (l.drop n)).cons x:=by
 obtain⟨g,hg⟩:∃g,l.length=g+1:=⟨l.length-1,by have:l.length≠0:=fun e=>h0 (List.eq_nil_of_length_eq_zero e);omega⟩
 have h1:=ri_ok hr;rw[hg,spl,if_neg h0,if_neg hc,hr];simp only
 rw[spl_more g _ _ (l.drop n) (by rw[List.length_drop];omega)]
theorem spl_full {p:Nat} {l:List B} (h0:l≠[]):spl l.length p 4096 l=.er 2 p:=by
 obtain⟨g,hg⟩:∃g,l.length=g+1:=⟨l.length-1,by have:l.length≠0:=fun e=>h0 (List.eq_nil_of_length_eq_zero e);omega⟩
 rw[hg,spl,if_neg h0,if_pos rfl]
theorem spl_er {p c:Nat} {l:List B} (h0:l≠[]) (hc:c≠4096) {e:Int} (hr:ri l=.er e):spl l.length p c l=.er e p:=by
 obtain⟨g,hg⟩:∃g,l.length=g+1:=⟨l.length-1,by have:l.length≠0:=fun e=>h0 (List.eq_nil_of_length_eq_zero e);omega⟩
 rw[hg,spl,if_neg h0,if_neg hc,hr]
def rip (r:RI):List B:=match r with| .ok p _=>p| .er _=>[]
def rie (p:Nat) (r:RI):Int:=match r with| .ok _ n=>((p+n:Nat):Int)| .er _=>0
def rir (r:RI):Int:=match r with| .ok _ _=>0| .er e=>e
def spp (r:RS):List (List B):=match r with| .ok l=>l| .er _ _=>[]
def spa (r:RS):Int:=match r with| .ok _=>0| .er _ p=>(p:Int)
def spe (r:RS):Int:=match r with| .ok _=>0| .er e _=>e
theorem elem8:Tryz.prog.underlying 24=some (.slice (Tryz.prog.elem 24)):=by kernel_rfl
theorem size8 (W:World):(sizeOf (Tryz.prog.elem 24)).run Tryz.prog W=.ok 1 W:=by kernel_rfl
def slc (ao:Option Addr) (cap m n:Nat):Value:=.slice (if cap=m then ao else ao.map (·.add (m*1))) (n-m) (cap-m)
theorem sl_mid (ao:Option Addr) (len cap m n:Nat) (h1:m≤n) (h2:n≤cap) (W:World):(Instr.sliceAt 24 (.slice ao len cap) (some (.int .i64 (m:Int))) (some (.int .i64 (n:Int))) none).run Tryz.prog W=.ok (slc ao cap m n) W:=by
 rw[run_sliceAt_slice _ _ _ _ _ _ elem8,run_slice_lh W 24 ao len cap elem8 .i64 .i64 _ _ (by omega) (by omega) (by omega),size8]
 show Result.ok (sliced _ _ _ _ 1) W=_
 rw[Int.toNat_natCast,Int.toNat_natCast,sliced];rfl
theorem bysB_mid {W:World} {ao:Option Addr} {cap m n:Nat} {d:List B} (h:BysB W (.slice ao d.length cap) d) (hmn:m≤n) (hn:n≤d.length) (hc:d.length≤cap):BysB W (slc ao cap m n) ((d.drop m).take (n-m)):=by
 obtain⟨⟨ao',c',e,hl,hce,hz⟩,h2,h3⟩:=h;rw[bl_len] at e
 cases e
 have hln:(bl ((d.drop m).take (n-m))).length=n-m:=by rw[bl_len,List.length_take,List.length_drop];omega
 rw[bl_len] at hl hce
 refine⟨⟨if cap=m then ao else ao.map (·.add (m*1)),cap-m,by rw[hln];rfl,by rw[hln];omega,fun j hj=>?_,bl_bnd _⟩,by rw[List.length_take,List.length_drop];omega,fun a l c hv ha=>?_⟩
 ·rw[hln] at hj
  obtain⟨b2,off2,e2,hb,hcell⟩:=hce (m+j) (by omega)
  subst e2;refine⟨b2,off2+m,?_,hb,?_⟩
  ·rw[if_neg (by omega),Option.map_some,addr_add,Nat.mul_one]
  ·rw[show off2+m+j=off2+(m+j) by omega,hcell,bl_get,bl_get,List.getD_eq_getElem?_getD,List.getD_eq_getElem?_getD,List.getElem?_take_of_lt hj,List.getElem?_drop]
 ·unfold slc at hv
  injection hv with q1 q2 q3
  subst q3;subst q1
  cases ao with
  |none=>
   have:=h3 none _ _ rfl rfl;omega
  |some x=>
   split at ha
   ·cases ha
   ·cases ha
theorem ri_of {l:List B} {v n:Nat} (h:rd 0 l=.ok v n):ri l=if l.length-n<v then .er 73 else .ok ((l.drop n).take v) (n+v):=by
 unfold ri;rw[h]
theorem ri_of_er {l:List B} {e:Int} (h:rd 0 l=.er e):ri l=.er e:=by
 unfold ri;rw[h]
theorem a_readItem (d:List B) (p:Nat) (hp:p≤d.length) (w:World) (v:Value) (hB:BysB w v d) (hcap:∀a l c,v=.slice a l c→l≤c):Calls Tryz.prog 137 #[v,.int .i64 (p:Int)] w fun e w'=>∃u,e=.returned (.tuple #[u,.int .i64 (rie p (ri (d.drop p))),.int .i64 (rir (ri (d.drop p)))])∧Own w' w.heap.size u (rip (ri (d.drop p)))∧Below w.heap.size w w':=by
 have hlen:=hB.2.1;have cN:=a_number d p hp w v hB;obtain⟨ao,cap,rfl⟩:=hB.form;have hcp:=hcap _ _ _ rfl;clear hcap
 cases hr:rd 0 (d.drop p) with
 |er e=>
  have he:(e==0)=false:=by rcases rd_er _ _ _ hr with h|h<;>subst h<;>rfl
  rw[ri_of_er hr];rw[hr] at cN;simp only[rie,rir,rip];unfold nres at cN
  go_enter Tryz.func137,Tryz.ntmps137
  go_wp2_with (fail)
  refine cN.mono ?_;rintro e_ w1 ⟨rfl,hb⟩;clear cN
  go_wp2_with (fail)
  go_ret3
  exact⟨_,rfl,own_none _ _,hb⟩
 |ok n k=>
  have hk:=rd0_len hr;rw[List.length_drop] at hk;have hn:=(rd0_ok hr).2.2;have hri:=ri_of hr;rw[hr] at cN;unfold nres at cN;rw[List.length_drop,List.drop_drop] at hri
  generalize hq:p+k=q at *
  have hq2:d.length-p-k=d.length-q:=by omega
  rw[hq2] at hri
  by_cases h2:d.length-q<n
  ·rw[if_pos h2] at hri
   rw[hri]
   simp only[rie,rir,rip]
   have d2:decide ((n:Int)>(d.length:Int)-(q:Int))=true:=by simp;omega
   clear hri hr hq2
   go_enter Tryz.func137,Tryz.ntmps137
   go_wp2_with (fail)
   refine cN.mono ?_;rintro e_ w1 ⟨rfl,hb⟩;clear cN
   go_wp2_with (fail)
   go_ret3
   exact⟨_,rfl,own_none _ _,hb⟩
  ·rw[if_neg h2] at hri
   rw[hri]
   simp only[rie,rir,rip]
   have d2:decide ((n:Int)>(d.length:Int)-(q:Int))=false:=by simp;omega
   have hsl:=sl_mid ao d.length cap q (q+n) (by omega) (by omega)
   rw[Int.natCast_add] at hsl
   have hbm:=fun V (h:BysB V (.slice ao d.length cap) d)=>bysB_mid (m:=q) (n:=q+n) h (by omega) (by omega) hcp
   rw[Nat.add_sub_cancel_left] at hbm
   have hfin:Hid (((p+(k+n):Nat):Int)=(q:Int)+(n:Int)):=hide (by omega)
   clear hri hr hq2
   generalize (d.drop q).take n=D at *
   generalize slc ao cap q (q+n)=u at *
   go_enter Tryz.func137,Tryz.ntmps137
   go_wp2_with (fail)
   refine cN.mono ?_;rintro e_ w1 ⟨rfl,hb⟩;clear cN;have cC:=a_clone D w1 u (hbm w1 (hB.keep hb));clear hbm
   go_wp2_with (fail)
   refine cC.mono ?_;rintro e_ w2 ⟨u2,rfl,hO,hb2⟩;clear cC
   go_wp2_with (fail)
   go_ret3
   refine⟨u2,?_,own_down hO hb.size,Below.after hb hb2⟩;rw[hfin.out];rfl
inductive RV where
 |er (e:Int)
 |ok (num:Nat) (dat:List B) (n:Nat)
def rv (l:List B) (t:Int):RV:=
 if t=1 then(if l.length<8 then .er 73 else .ok (fxv (l.take 8)) [] 8)
 else if t=5 then(if l.length<4 then .er 73 else .ok (fxv (l.take 4)) [] 4)
 else if t=2 then(match ri l with
  | .er e=>.er e
  | .ok p n=>.ok 0 p n)
 else(match rd 0 l with
  | .er e=>.er e
  | .ok v n=>.ok v [] n)
inductive RH where
 |er (e:Int)
 |ok (no ty:Int) (n:Nat)
def rh (l:List B) (last:Int) (c:Nat):RH:=match rd 0 l with
 | .er e=>.er e
 | .ok v n=>if c=64 then .er 2 else if 536870911<v/8 then .er 71 else
  if hck ⟨((v:Int)/8),((v:Int)%8),0,[]⟩ last≠0 then .er (hck ⟨((v:Int)/8),((v:Int)%8),0,[]⟩ last)
  else .ok ((v:Int)/8) ((v:Int)%8) n
theorem fx_or {a s:Nat} {x:B} (ha:a<2^s) (hs:s≤56):bits .or .u64 (a:Int) (IntKind.u64.wrap (bv x*2^min s 64))=((a+x.toNat*2^s:Nat):Int)∧a+x.toNat*2^s<2^(s+8):=by
 have hx:=x.isLt
 have h8:a+x.toNat*2^s<2^(s+8):=by
  rw[Nat.pow_add]
  have h1:x.toNat*2^s≤255*2^s:=Nat.mul_le_mul_right _ (by omega)
  omega
 have h64:2^(s+8)≤2^64:=Nat.pow_le_pow_right (by decide) (by omega)
 refine⟨?_,h8⟩
 have e1:bv x*2^min s 64=((x.toNat*2^s:Nat):Int):=by
  rw[Nat.min_eq_left (by omega)]
  simp[bv]
 rw[e1,IntKind.wrap_u64,Int.emod_eq_of_lt (by omega) (by omega),u64_or_nat _ _ (by omega) (by omega)]
 congr 1
 have:=Nat.shiftLeft_add_eq_or_of_lt ha x.toNat;rw[Nat.shiftLeft_eq] at this;rw[Nat.or_comm,←this,Nat.add_comm]
theorem fxv_snoc:∀(l:List B) (x:B),fxv (l++[x])=fxv l+x.toNat*2^(8*l.length)
 |[],x=>by simp[fxv]
 |y::l,x=>by
  rw[List.cons_append,fxv,fxv,fxv_snoc l x,List.length_cons,show 8*(l.length+1)=8*l.length+8 by omega,Nat.pow_add,Nat.mul_add,Nat.add_assoc]
  congr 2
  rw[show(2:Nat)^8=256 from rfl,←Nat.mul_assoc,Nat.mul_comm 256,Nat.mul_right_comm]
  rw[Nat.mul_right_comm,Nat.mul_assoc,Nat.mul_comm 256]
theorem fxv_lt2 (l:List B):fxv l<2^(8*l.length):=by
 have:=fxv_lt l
 rwa [show(256:Nat)=2^8 from rfl,←Nat.pow_mul] at this
theorem take_snocB (l:List B) (j:Nat) (h:j<l.length):l.take (j+1)=l.take j++[gb l j]:=by
 rw[List.take_succ_eq_append_getElem h,gb,List.getD_eq_getElem?_getD,List.getElem?_eq_getElem h];rfl
theorem gb_drop (l:List B) (p j:Nat):gb (l.drop p) j=gb l (p+j):=by
 rw[gb,gb,List.getD_eq_getElem?_getD,List.getElem?_drop,←List.getD_eq_getElem?_getD]
def fres (l:List B) (p k:Nat):Value:=if l.length<k then .tuple #[.int .u64 0,.int .i64 0,.int .i64 73] else .tuple #[.int .u64 ((fxv (l.take k):Nat):Int),.int .i64 ((p+k:Nat):Int),.int .i64 0]
theorem a_readFixed (d:List B) (p k:Nat) (hp:p≤d.length) (hk:k≤8) (w:World) (v:Value) (hB:BysB w v d):Calls Tryz.prog 136 #[v,.int .i64 (p:Int),.int .i64 (k:Int)] w fun e w'=>e=.returned (fres (d.drop p) p k)∧Below w.heap.size w w':=by
 have hlen:=hB.2.1;obtain⟨ao,cap,rfl⟩:=hB.form;have hld:(d.drop p).length=d.length-p:=List.length_drop
 by_cases h1:(d.drop p).length<k
 ·have d1:decide ((d.length:Int)-(p:Int)<(k:Int))=true:=by simp;omega
  have hf:fres (d.drop p) p k=.tuple #[.int .u64 0,.int .i64 0,.int .i64 73]:=if_pos h1
  rw[hf];clear hld h1
  go_enter Tryz.func136,Tryz.ntmps136
  go_wp2_with (fail)
  go_ret3
  exact⟨rfl,Below.refl _ _⟩
 ·have d1:decide ((d.length:Int)-(p:Int)<(k:Int))=false:=by simp;omega
  have hf:fres (d.drop p) p k=.tuple #[.int .u64 ((fxv ((d.drop p).take k):Nat):Int),.int .i64 ((p+k:Nat):Int),.int .i64 0]:=if_neg h1
  rw[hf];clear hf
  go_enter Tryz.func136,Tryz.ntmps136
  go_wp2_with (fail)
  go_loopw [9,18] (fun m i wr=>∃(j a:Nat),j≤k∧i=.int .i64 (j:Int)∧m=.int .u64 (a:Int)∧a=fxv ((d.drop p).take j)∧wr=w) (fun _ i _=>k-(intOf i).toNat)
  case atStart=>exact⟨0,0,by omega,rfl,rfl,rfl,rfl⟩
  case round=>
   obtain⟨j,a,hj,rfl,rfl,ha,rfl⟩:=hrel
   by_cases hlt:j<k
   ·have hd:decide ((j:Int)<(k:Int))=true:=by simp;omega
    obtain⟨b,off,rfl,hbl,hcl⟩:=hB.cellAt (j:=p+j) (by omega)
    have hal:a<2^(8*j):=by
     have:=fxv_lt2 ((d.drop p).take j)
     rw[List.length_take,Nat.min_eq_left (by omega)] at this
     omega
    have hor:=fx_or (x:=gb d (p+j)) hal (by omega)
    have hnext:Hid (a+(gb d (p+j)).toNat*2^(8*j)=fxv ((d.drop p).take (j+1))):=hide (by
     rw[take_snocB _ _ (by omega),fxv_snoc,List.length_take,Nat.min_eq_left (by omega),gb_drop,ha])
    have hor2:Hid (bits .or .u64 (a:Int) (IntKind.u64.wrap (bv (gb d (p+j))*2^(8*j)))=((a+(gb d (p+j)).toNat*2^(8*j):Nat):Int)):=hide (by have:=hor.1;rwa [Nat.min_eq_left (by omega)] at this)
    have hor1:Hid (bits .or .u64 (a:Int) (IntKind.u64.wrap (bv (gb d (p+j))*2^min (8*j) 64))=((a+(gb d (p+j)).toNat*2^(8*j):Nat):Int)):=hide hor.1;have hxb:=bnd (gb d (p+j))
    have hq1:0≤(p:Int)+(j:Int)∧(p:Int)+(j:Int)<(d.length:Int):=by omega
    replace ha:=hide ha;clear hor hB hld h1 hal
    generalize gb d (p+j)=x at *
    go_wp2_with (fail)
    refine⟨⟨j+1,a+x.toNat*2^(8*j),by omega,by go_num,by first|rw[hor2.out]|rw[hor1.out],hnext.out,trivial⟩,?_⟩
    simp[intOf];omega
   ·obtain rfl:j=k:=by omega
    have hd:decide ((j:Int)<(j:Int))=false:=by simp
    replace ha:=hide ha;clear hld h1
    go_wp2_with (fail)
    go_ret3
    exact⟨by rw[←ha.out];rfl,Below.refl _ _⟩
def vnum:RV→Nat
 | .ok n _ _=>n
 | .er _=>0
def vdat:RV→List B
 | .ok _ p _=>p
 | .er _=>[]
def vend (p:Nat):RV→Int
 | .ok _ _ n=>((p+n:Nat):Int)
 | .er _=>0
def verr:RV→Int
 | .ok _ _ _=>0
 | .er e=>e
theorem results_tmp4 {fn:Func} {t u v x:Tmp} (h:fn.results=#[.tmp t,.tmp u,.tmp v,.tmp x]) (tmps:Array Value) (P:Program) (w:World):(results fn tmps).run P w=.ok (.tuple #[tmps.getD t undef,tmps.getD u undef,tmps.getD v undef,tmps.getD x undef]) w:=by
 simp[results,h]
theorem a_readValue (d:List B) (p:Nat) (t:Int) (hp:p≤d.length) (hk:known t) (w:World) (v:Value) (hB:BysB w v d) (hcap:∀a l c,v=.slice a l c→l≤c):Calls Tryz.prog 109 #[v,.int .i64 (p:Int),.int .i64 t] w fun e w'=>∃u,e=.returned (.tuple #[.int .u64 (vnum (rv (d.drop p) t):Int),u,.int .i64 (vend p (rv (d.drop p) t)),.int .i64 (verr (rv (d.drop p) t))])∧Own w' w.heap.size u (vdat (rv (d.drop p) t))∧Below w.heap.size w w':=by
 obtain⟨ao,cap,hve⟩:=hB.form
 have hrt:∀(a b c e:Value),True:=fun _ _ _ _=>trivial
 clear hrt
 rcases hk with rfl|rfl|rfl|rfl
 ·have cN:=a_number d p hp w v hB
  subst hve
  cases hr:rd 0 (d.drop p) with
  |er e=>
   have hv:rv (d.drop p) 0=.er e:=by simp[rv,hr]
   rw[hv];rw[hr] at cN;unfold nres at cN;simp only[vnum,vdat,vend,verr]
   go_enter Tryz.func109,Tryz.ntmps109
   go_wp2_with (fail)
   refine cN.mono ?_;rintro e_ w1 ⟨rfl,hb⟩
   go_wp2_with (fail)
   refine bodyPost_ret (results_tmp4 rfl _ _ _) rfl ?_;exact⟨_,rfl,own_none _ _,hb⟩
  |ok x n=>
   have hv:rv (d.drop p) 0=.ok x [] n:=by simp[rv,hr]
   rw[hv];rw[hr] at cN;unfold nres at cN;simp only[vnum,vdat,vend,verr]
   go_enter Tryz.func109,Tryz.ntmps109
   go_wp2_with (fail)
   refine cN.mono ?_;rintro e_ w1 ⟨rfl,hb⟩
   go_wp2_with (fail)
   refine bodyPost_ret (results_tmp4 rfl _ _ _) rfl ?_;exact⟨_,rfl,own_none _ _,hb⟩
 ·have cN:=a_readFixed d p 8 hp (by omega) w v hB
  rw[show((8:Nat):Int)=8 from rfl] at cN
  subst hve
  by_cases h8:(d.drop p).length<8
  ·have hv:rv (d.drop p) 1=.er 73:=by unfold rv;rw[if_pos rfl,if_pos h8]
   have hf:fres (d.drop p) p 8=.tuple #[.int .u64 0,.int .i64 0,.int .i64 73]:=if_pos h8
   rw[hv];rw[hf] at cN;clear hv hf h8;simp only[vnum,vdat,vend,verr]
   go_enter Tryz.func109,Tryz.ntmps109
   go_wp2_with (fail)
   refine cN.mono ?_;rintro e_ w1 ⟨rfl,hb⟩
   go_wp2_with (fail)
   refine bodyPost_ret (results_tmp4 rfl _ _ _) rfl ?_;exact⟨_,rfl,own_none _ _,hb⟩
  ·have hv:rv (d.drop p) 1=.ok (fxv ((d.drop p).take 8)) [] 8:=by unfold rv;rw[if_pos rfl,if_neg h8]
   have hf:fres (d.drop p) p 8=.tuple #[.int .u64 ((fxv ((d.drop p).take 8):Nat):Int),.int .i64 ((p+8:Nat):Int),.int .i64 0]:=if_neg h8
   rw[hv];rw[hf] at cN;clear hv hf h8;simp only[vnum,vdat,vend,verr]
   go_enter Tryz.func109,Tryz.ntmps109
   go_wp2_with (fail)
   refine cN.mono ?_;rintro e_ w1 ⟨rfl,hb⟩
   go_wp2_with (fail)
   refine bodyPost_ret (results_tmp4 rfl _ _ _) rfl ?_;exact⟨_,rfl,own_none _ _,hb⟩
 ·have cN:=a_readItem d p hp w v hB hcap
  have hvv:rv (d.drop p) 2=match ri (d.drop p) with
   | .er e=>.er e
   | .ok p n=>.ok 0 p n:=by simp[rv]
  subst hve
  cases hr:ri (d.drop p) with
  |er e=>
   rw[hvv,hr];rw[hr] at cN;simp only[vnum,vdat,vend,verr];simp only[rie,rir,rip] at cN;clear hvv
   go_enter Tryz.func109,Tryz.ntmps109
   go_wp2_with (fail)
   refine cN.mono ?_;rintro e_ w1 ⟨u,rfl,hO,hb⟩
   go_wp2_with (fail)
   refine bodyPost_ret (results_tmp4 rfl _ _ _) rfl ?_;exact⟨_,rfl,hO,hb⟩
  |ok x n=>
   rw[hvv,hr];rw[hr] at cN;simp only[vnum,vdat,vend,verr];simp only[rie,rir,rip] at cN;clear hvv
   go_enter Tryz.func109,Tryz.ntmps109
   go_wp2_with (fail)
   refine cN.mono ?_;rintro e_ w1 ⟨u,rfl,hO,hb⟩
   go_wp2_with (fail)
   refine bodyPost_ret (results_tmp4 rfl _ _ _) rfl ?_;exact⟨_,rfl,hO,hb⟩
 ·have cN:=a_readFixed d p 4 hp (by omega) w v hB
  rw[show((4:Nat):Int)=4 from rfl] at cN
  subst hve
  by_cases h8:(d.drop p).length<4
  ·have hv:rv (d.drop p) 5=.er 73:=by unfold rv;rw[if_neg (by decide),if_pos rfl,if_pos h8]
   have hf:fres (d.drop p) p 4=.tuple #[.int .u64 0,.int .i64 0,.int .i64 73]:=if_pos h8
   rw[hv];rw[hf] at cN;clear hv hf h8;simp only[vnum,vdat,vend,verr]
   go_enter Tryz.func109,Tryz.ntmps109
   go_wp2_with (fail)
   refine cN.mono ?_;rintro e_ w1 ⟨rfl,hb⟩
   go_wp2_with (fail)
   refine bodyPost_ret (results_tmp4 rfl _ _ _) rfl ?_;exact⟨_,rfl,own_none _ _,hb⟩
  ·have hv:rv (d.drop p) 5=.ok (fxv ((d.drop p).take 4)) [] 4:=by unfold rv;rw[if_neg (by decide),if_pos rfl,if_neg h8]
   have hf:fres (d.drop p) p 4=.tuple #[.int .u64 ((fxv ((d.drop p).take 4):Nat):Int),.int .i64 ((p+4:Nat):Int),.int .i64 0]:=if_neg h8
   rw[hv];rw[hf] at cN;clear hv hf h8;simp only[vnum,vdat,vend,verr]
   go_enter Tryz.func109,Tryz.ntmps109
   go_wp2_with (fail)
   refine cN.mono ?_;rintro e_ w1 ⟨rfl,hb⟩
   go_wp2_with (fail)
   refine bodyPost_ret (results_tmp4 rfl _ _ _) rfl ?_;exact⟨_,rfl,own_none _ _,hb⟩
def hres (p:Nat):RH→Value
 | .er e=>.tuple #[.agg #[.int .i64 0,.int .i64 0,.int .u64 0,nS],.int .i64 0,.int .i64 e]
 | .ok no ty n=>.tuple #[.agg #[.int .i64 no,.int .i64 ty,.int .u64 0,nS],.int .i64 ((p+n:Nat):Int),.int .i64 0]
theorem results_row_tmp2 {P:Program} {fn:Func} {p u x:Tmp} {ty:TypeId} (h:fn.results=#[.cell p ty,.tmp u,.tmp x]) (tmps:Array Value) (w:World) (g:Nat) (t:TypeId) (cs:Array Value) (fr:Nat×Nat) (d:TypeDesc)
 (hp:tmps.getD p undef=.pointer (some ⟨g,0,none⟩)) (hg:w.heap[g]? =some (.cells cs t fr))
 (hu:P.underlying ty=some d) (hd:(match d with| .struct _| .array _ _=>true|_=>false)=true) (hi:(P.info? ty).map (·.size)=some cs.size):
 (results fn tmps).run P w=.ok (.tuple #[.agg cs,tmps.getD u undef,tmps.getD x undef]) w:=by
 have hl:=run_loadVar_row (P:=P) w g t ty cs fr d hg hu hd hi;simp only[Array.getD_eq_getD_getElem?] at hp
 simp[results,h,hp,asAddr,hl]
theorem a_readHead (d:List B) (p:Nat) (last:Int) (c:Nat) (hp:p≤d.length) (w:World) (v:Value) (hB:BysB w v d):Calls Tryz.prog 108 #[v,.int .i64 (p:Int),.int .i64 last,.int .i64 (c:Int)] w fun e w'=>e=.returned (hres p (rh (d.drop p) last c))∧Below w.heap.size w w':=by
 obtain⟨ao,cap,hve⟩:=hB.form;have r0:=hp1_0 w (.cells #[.int .i64 0,.int .i64 0,.int .u64 0,nS] 118);have hw:Below w.heap.size w (w.alloc (.cells #[.int .i64 0,.int .i64 0,.int .u64 0,nS] 118)):=(Below.refl _ _).alloc (Nat.le_refl _) _;have cN:=a_number d p hp (w.alloc (.cells #[.int .i64 0,.int .i64 0,.int .u64 0,nS] 118)) v (hB.keep hw);subst hve
 have hone:(#[.int .i64 0,.int .i64 0,.int .u64 0,nS]:Array Value).all (·.oneCell')=true:=by simp[Value.oneCell']
 cases hr:rd 0 (d.drop p) with
 |er e=>
  have hh:rh (d.drop p) last c=.er e:=by unfold rh;rw[hr]
  have he:(e==0)=false:=by rcases rd_er _ _ _ hr with h|h<;>subst h<;>rfl
  rw[hh];rw[hr] at cN;unfold nres at cN;simp only[hres];clear hh hr
  go_enter Tryz.func108,Tryz.ntmps108
  go_wp2_with (first|(refine wpList_alloc rfl 118 rfl #[.int .i64 0,.int .i64 0,.int .u64 0,nS] zFd ?_)|fail)
  generalize w.alloc (.cells #[.int .i64 0,.int .i64 0,.int .u64 0,nS] 118)=w0 at *
  refine cN.mono ?_;rintro e_ w1 ⟨rfl,hb⟩;have r1:=keep hb r0;replace hw:=hw.trans (hb.mono hw.size);clear cN
  go_wp2_with (first|(refine wpList_store_row rfl 118 _ _ rfl (w.heap.size) #[.int .i64 0,.int .i64 0,.int .u64 0,nS] rfl rfl 118 _ r1 infoF rfl hone ?_)|fail)
  replace r1:=setRow_heap _ w.heap.size _ #[.int .i64 0,.int .i64 0,.int .u64 0,nS] _ _ r1;replace hw:=below_setRow hw (Nat.le_refl _) #[.int .i64 0,.int .i64 0,.int .u64 0,nS];exact bodyPost_ret (results_row_tmp2 rfl _ _ (w.heap.size) _ _ _ _ rfl r1 Tryz.underlying118 rfl infoF) rfl ⟨rfl,hw⟩
 |ok x n=>
  rw[hr] at cN;unfold nres at cN;have hx:=(rd0_ok hr).2.2
  have hh:rh (d.drop p) last c=if c=64 then .er 2 else if 536870911<x/8 then .er 71 else
   if hck ⟨((x:Int)/8),((x:Int)%8),0,[]⟩ last≠0 then .er (hck ⟨((x:Int)/8),((x:Int)%8),0,[]⟩ last)
   else .ok ((x:Int)/8) ((x:Int)%8) n:=by unfold rh;rw[hr]
  by_cases h1:c=64
  ·rw[if_pos h1] at hh
   have d1:((c:Int)==64)=true:=by simp;omega
   rw[hh];simp only[hres];clear hh hr;replace h1:=hide h1
   go_enter Tryz.func108,Tryz.ntmps108
   go_wp2_with (first|(refine wpList_alloc rfl 118 rfl #[.int .i64 0,.int .i64 0,.int .u64 0,nS] zFd ?_)|fail)
   generalize w.alloc (.cells #[.int .i64 0,.int .i64 0,.int .u64 0,nS] 118)=w0 at *
   refine cN.mono ?_;rintro e_ w1 ⟨rfl,hb⟩;have r1:=keep hb r0;replace hw:=hw.trans (hb.mono hw.size);clear cN
   go_wp2_with (first|(refine wpList_store_row rfl 118 _ _ rfl (w.heap.size) #[.int .i64 0,.int .i64 0,.int .u64 0,nS] rfl rfl 118 _ r1 infoF rfl hone ?_)|fail)
   replace r1:=setRow_heap _ w.heap.size _ #[.int .i64 0,.int .i64 0,.int .u64 0,nS] _ _ r1;replace hw:=below_setRow hw (Nat.le_refl _) #[.int .i64 0,.int .i64 0,.int .u64 0,nS];exact bodyPost_ret (results_row_tmp2 rfl _ _ (w.heap.size) _ _ _ _ rfl r1 Tryz.underlying118 rfl infoF) rfl ⟨rfl,hw⟩
  rw[if_neg h1] at hh
  have d1:((c:Int)==64)=false:=by simp;omega
  by_cases h2:536870911<x/8
  ·rw[if_pos h2] at hh
   have d2:decide ((x:Int)/8>536870911)=true:=by simp;omega
   rw[hh];simp only[hres];clear hh hr
   go_enter Tryz.func108,Tryz.ntmps108
   go_wp2_with (first|(refine wpList_alloc rfl 118 rfl #[.int .i64 0,.int .i64 0,.int .u64 0,nS] zFd ?_)|fail)
   generalize w.alloc (.cells #[.int .i64 0,.int .i64 0,.int .u64 0,nS] 118)=w0 at *
   refine cN.mono ?_;rintro e_ w1 ⟨rfl,hb⟩;have r1:=keep hb r0;replace hw:=hw.trans (hb.mono hw.size);clear cN
   go_wp2_with (first|(refine wpList_store_row rfl 118 _ _ rfl (w.heap.size) #[.int .i64 0,.int .i64 0,.int .u64 0,nS] rfl rfl 118 _ r1 infoF rfl hone ?_)|fail)
   replace r1:=setRow_heap _ w.heap.size _ #[.int .i64 0,.int .i64 0,.int .u64 0,nS] _ _ r1;replace hw:=below_setRow hw (Nat.le_refl _) #[.int .i64 0,.int .i64 0,.int .u64 0,nS];exact bodyPost_ret (results_row_tmp2 rfl _ _ (w.heap.size) _ _ _ _ rfl r1 Tryz.underlying118 rfl infoF) rfl ⟨rfl,hw⟩
  rw[if_neg h2] at hh
  have d2:decide ((x:Int)/8>536870911)=false:=by simp;omega
  have cH:=a_checkHead ⟨((x:Int)/8),((x:Int)%8),0,[]⟩ nS last;unfold fagg at cH
  have hone2:(#[.int .i64 ((x:Int)/8),.int .i64 ((x:Int)%8),.int .u64 0,nS]:Array Value).all (·.oneCell')=true:=by simp[Value.oneCell']
  have hb1:x/8≤536870911:=by omega
  have hb2:x%8<8:=by omega
  clear hr h1 h2
  go_enter Tryz.func108,Tryz.ntmps108
  go_wp2_with (first|(refine wpList_alloc rfl 118 rfl #[.int .i64 0,.int .i64 0,.int .u64 0,nS] zFd ?_)|fail)
  generalize w.alloc (.cells #[.int .i64 0,.int .i64 0,.int .u64 0,nS] 118)=w0 at *
  refine cN.mono ?_;rintro e_ w1 ⟨rfl,hb⟩;have r1:=keep hb r0;have l1:=lt_of_row r1;replace hw:=hw.trans (hb.mono hw.size);have q0:=hp1_0 w1 (.cells #[.int .i64 0,.int .i64 0,.int .u64 0,nS] 118);have q1:=setRow_heap _ w1.heap.size _ #[.int .i64 ((x:Int)/8),.int .i64 ((x:Int)%8),.int .u64 0,nS] _ _ q0;have hba:Below w1.heap.size w1 (w1.alloc (.cells #[.int .i64 0,.int .i64 0,.int .u64 0,nS] 118)):=(Below.refl _ _).alloc (Nat.le_refl _) _;replace hba:=below_setRow hba (Nat.le_refl _) #[.int .i64 ((x:Int)/8),.int .i64 ((x:Int)%8),.int .u64 0,nS];have cH0:=cH ((w1.alloc (.cells #[.int .i64 0,.int .i64 0,.int .u64 0,nS] 118)).setRow w1.heap.size #[.int .i64 ((x:Int)/8),.int .i64 ((x:Int)%8),.int .u64 0,nS]);clear cN cH r0
  go_wp2_with (first|(refine wpList_alloc rfl 118 rfl #[.int .i64 0,.int .i64 0,.int .u64 0,nS] zFd ?_)|(refine wpList_store_row rfl 118 _ _ rfl (w1.heap.size) #[.int .i64 ((x:Int)/8),.int .i64 ((x:Int)%8),.int .u64 0,nS] rfl rfl 118 _ q0 infoF rfl hone2 ?_)|(refine wpList_load_want rfl 118 _ rfl (w1.heap.size) rfl 118 #[.int .i64 ((x:Int)/8),.int .i64 ((x:Int)%8),.int .u64 0,nS] (0,0) _ q1 Tryz.underlying118 rfl infoF ?_)|fail)
  have l2:=lt_of_row q1
  generalize (w1.alloc (.cells #[.int .i64 0,.int .i64 0,.int .u64 0,nS] 118)).setRow w1.heap.size #[.int .i64 ((x:Int)/8),.int .i64 ((x:Int)%8),.int .u64 0,nS]=w2 at *
  refine cH0.mono ?_;rintro e_ w3 ⟨rfl,hb3⟩;replace r1:=keep hb3 (keep hba r1);replace q1:=keep hb3 q1;replace hw:=(hw.trans (hba.mono hw.size)).trans (hb3.mono (Nat.le_trans hw.size hba.size));clear cH0 hb hba hb3 q0
  by_cases h3:hck ⟨((x:Int)/8),((x:Int)%8),0,[]⟩ last=0
  ·rw[if_neg (by rw[h3];simp)] at hh
   rw[h3]
   have hfin:Hid (hres p (rh (d.drop p) last c)=.tuple #[.agg #[.int .i64 ((x:Int)/8),.int .i64 ((x:Int)%8),.int .u64 0,nS],.int .i64 ((p+n:Nat):Int),.int .i64 0]):=hide (by rw[hh];rfl)
   clear hh h3
   go_wp2_with (first|(refine wpList_load_want rfl 118 _ rfl (w1.heap.size) rfl 118 #[.int .i64 ((x:Int)/8),.int .i64 ((x:Int)%8),.int .u64 0,nS] (0,0) _ q1 Tryz.underlying118 rfl infoF ?_)|(refine wpList_store_row rfl 118 _ _ rfl (w.heap.size) #[.int .i64 ((x:Int)/8),.int .i64 ((x:Int)%8),.int .u64 0,nS] rfl rfl 118 _ r1 infoF rfl hone2 ?_)|fail)
   replace r1:=setRow_heap _ w.heap.size _ #[.int .i64 ((x:Int)/8),.int .i64 ((x:Int)%8),.int .u64 0,nS] _ _ r1;replace hw:=below_setRow hw (Nat.le_refl _) #[.int .i64 ((x:Int)/8),.int .i64 ((x:Int)%8),.int .u64 0,nS]
   exact bodyPost_ret (results_row_tmp2 rfl _ _ (w.heap.size) _ _ _ _ rfl r1 Tryz.underlying118 rfl infoF) rfl ⟨by rw[hfin.out];rfl,hw⟩
  ·rw[if_pos h3] at hh
   have he:(hck ⟨((x:Int)/8),((x:Int)%8),0,[]⟩ last==0)=false:=by simpa using h3
   generalize hck ⟨((x:Int)/8),((x:Int)%8),0,[]⟩ last=E at *
   have hfin:Hid (hres p (rh (d.drop p) last c)=.tuple #[.agg #[.int .i64 0,.int .i64 0,.int .u64 0,nS],.int .i64 0,.int .i64 E]):=hide (by rw[hh];rfl)
   clear hh h3
   go_wp2_with (first|(refine wpList_store_row rfl 118 _ _ rfl (w.heap.size) #[.int .i64 0,.int .i64 0,.int .u64 0,nS] rfl rfl 118 _ r1 infoF rfl hone ?_)|fail)
   replace r1:=setRow_heap _ w.heap.size _ #[.int .i64 0,.int .i64 0,.int .u64 0,nS] _ _ r1;replace hw:=below_setRow hw (Nat.le_refl _) #[.int .i64 0,.int .i64 0,.int .u64 0,nS]
   exact bodyPost_ret (results_row_tmp2 rfl _ _ (w.heap.size) _ _ _ _ rfl r1 Tryz.underlying118 rfl infoF) rfl ⟨by rw[hfin.out];rfl,hw⟩
end Go.Proofs.YtmmlkfkpblokiaaGreatDoor
