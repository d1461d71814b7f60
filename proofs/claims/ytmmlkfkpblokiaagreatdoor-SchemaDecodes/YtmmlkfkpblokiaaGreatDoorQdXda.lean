import Derived.Test.YtmmlkfkpblokiaaGreatDoorProg
import Derived.WalkKit
import Derived.WalkSpells
import Derived.WalkLawsBesides
import Derived.Lib.QuietBelow
import Derived.Laws.BitsAllLaws
import Derived.BigQuiet
import Derived.WalkMore
import Derived.Test.YtmmlkfkpblokiaaGreatDoorQdOpen
import Derived.Test.YtmmlkfkpblokiaaGreatDoorQdIrb
import Derived.OrdersHeld
import Derived.Deep.RegionHeld3
import Derived.RangeFuncNested
import Derived.RangeFuncBound
import Derived.RangeFuncCalls
import Derived.RangeFuncLeaves
import Derived.Shelf.Abstract
import Derived.Shelf.RegionOpen
import Derived.OwnWalkIn
import Derived.TacticsInMore
import Derived.LoopNIn
import Derived.LoopIn
namespace Go.Proofs.YtmmlkfkpblokiaaGreatDoor
set_option maxRecDepth 100000
open Go Go.RowKit Go.Sort
attribute [local go_sem] setCell_drewN alloc_drewN
inductive RV where
 |er (e:Int)
 |ok (num:Nat) (dat:List B) (n:Nat)
def rv (l:List B) (t:Int):RV:=
 if t=1 then(if l.length<8 then .er 73 else .ok (fxv (l.take 8)) [] 8)
 else if t=5 then(if l.length<4 then .er 73 else .ok (fxv (l.take 4)) [] 4)
 else if t=2 then(match ri l with
  | .er e=>.er e
  | .ok p n=>.ok 0 p n)
 else(match rd 0 l with
  | .er e=>.er e
  | .ok v n=>.ok v [] n)
inductive RH where
 |er (e:Int)
 |ok (no ty:Int) (n:Nat)
def rh (l:List B) (last:Int) (c:Nat):RH:=match rd 0 l with
 | .er e=>.er e
 | .ok v n=>if c=64 then .er 2 else if 536870911<v/8 then .er 71 else
  if hck ⟨((v:Int)/8),((v:Int)%8),0,[]⟩ last≠0 then .er (hck ⟨((v:Int)/8),((v:Int)%8),0,[]⟩ last)
  else .ok ((v:Int)/8) ((v:Int)%8) n
theorem fx_or {a s:Nat} {x:B} (ha:a<2^s) (hs:s≤56):bits .or .u64 (a:Int) (IntKind.u64.wrap (bv x*2^min s 64))=((a+x.toNat*2^s:Nat):Int)∧a+x.toNat*2^s<2^(s+8):=by
 have hx:=x.isLt
 have h8:a+x.toNat*2^s<2^(s+8):=by
  rw[Nat.pow_add]
  have h1:x.toNat*2^s≤255*2^s:=Nat.mul_le_mul_right _ (by omega)
  omega
 have h64:2^(s+8)≤2^64:=Nat.pow_le_pow_right (by decide) (by omega)
 refine⟨?_,h8⟩
 have e1:bv x*2^min s 64=((x.toNat*2^s:Nat):Int):=by
  rw[Nat.min_eq_left (by omega)]
  simp[bv]
 rw[e1,IntKind.wrap_u64,Int.emod_eq_of_lt (by omega) (by omega),u64_or_nat _ _ (by omega) (by omega)]
 congr 1
 have:=Nat.shiftLeft_add_eq_or_of_lt ha x.toNat;rw[Nat.shiftLeft_eq] at this;rw[Nat.or_comm,←this,Nat.add_comm]
theorem fxv_snoc:∀(l:List B) (x:B),fxv (l++[x])=fxv l+x.toNat*2^(8*l.length)
 |[],x=>by simp[fxv]
 |y::l,x=>by
  rw[List.cons_append,fxv,fxv,fxv_snoc l x,List.length_cons,show 8*(l.length+1)=8*l.length+8 by omega,Nat.pow_add,Nat.mul_add,Nat.add_assoc]
  congr 2
  rw[show(2:Nat)^8=256 from rfl,←Nat.mul_assoc,Nat.mul_comm 256,Nat.mul_right_comm]
  rw[Nat.mul_right_comm,Nat.mul_assoc,Nat.mul_comm 256]
theorem fxv_lt2 (l:List B):fxv l<2^(8*l.length):=by
 have:=fxv_lt l
 rwa [show(256:Nat)=2^8 from rfl,←Nat.pow_mul] at this
theorem take_snocB (l:List B) (j:Nat) (h:j<l.length):l.take (j+1)=l.take j++[gb l j]:=by
 rw[List.take_succ_eq_append_getElem h,gb,List.getD_eq_getElem?_getD,List.getElem?_eq_getElem h];rfl
theorem gb_drop (l:List B) (p j:Nat):gb (l.drop p) j=gb l (p+j):=by
 rw[gb,gb,List.getD_eq_getElem?_getD,List.getElem?_drop,←List.getD_eq_getElem?_getD]
def fres (l:List B) (p k:Nat):Value:=if l.length<k then .tuple #[.int .u64 0,.int .i64 0,.int .i64 73] else .tuple #[.int .u64 ((fxv (l.take k):Nat):Int),.int .i64 ((p+k:Nat):Int),.int .i64 0]
set_option maxRecDepth 100000 in
set_option maxHeartbeats 4000000 in
theorem a_readFixed (d:List B) (p k:Nat) (hp:p≤d.length) (hk:k≤8) (w:World) (v:Value) (hB:BysB w v d):Calls Tryz.prog 136 #[v,.int .i64 (p:Int),.int .i64 (k:Int)] w fun e w'=>e=.returned (fres (d.drop p) p k)∧Below w.heap.size w w':=by
 have hlen:=hB.2.1;obtain⟨ao,cap,rfl⟩:=hB.form;have hld:(d.drop p).length=d.length-p:=List.length_drop
 by_cases h1:(d.drop p).length<k
 ·have d1:decide ((d.length:Int)-(p:Int)<(k:Int))=true:=by simp;omega
  have hf:fres (d.drop p) p k=.tuple #[.int .u64 0,.int .i64 0,.int .i64 73]:=if_pos h1
  rw[hf];clear hld h1
  go_enter Tryz.func136,Tryz.ntmps136
  go_wp2_with (fail)
  go_ret3
  exact⟨rfl,Below.refl _ _⟩
 ·have d1:decide ((d.length:Int)-(p:Int)<(k:Int))=false:=by simp;omega
  have hf:fres (d.drop p) p k=.tuple #[.int .u64 ((fxv ((d.drop p).take k):Nat):Int),.int .i64 ((p+k:Nat):Int),.int .i64 0]:=if_neg h1
  rw[hf];clear hf
  go_enter Tryz.func136,Tryz.ntmps136
  go_wp2_with (fail)
  go_loopw [9,18] (fun m i wr=>∃(j a:Nat),j≤k∧i=.int .i64 (j:Int)∧m=.int .u64 (a:Int)∧a=fxv ((d.drop p).take j)∧wr=w) (fun _ i _=>k-(intOf i).toNat)
  case atStart=>exact⟨0,0,by omega,rfl,rfl,rfl,rfl⟩
  case round=>
   obtain⟨j,a,hj,rfl,rfl,ha,rfl⟩:=hrel
   by_cases hlt:j<k
   ·have hd:decide ((j:Int)<(k:Int))=true:=by simp;omega
    obtain⟨b,off,rfl,hbl,hcl⟩:=hB.cellAt (j:=p+j) (by omega)
    have hal:a<2^(8*j):=by
     have:=fxv_lt2 ((d.drop p).take j)
     rw[List.length_take,Nat.min_eq_left (by omega)] at this
     omega
    have hor:=fx_or (x:=gb d (p+j)) hal (by omega)
    have hnext:Hid (a+(gb d (p+j)).toNat*2^(8*j)=fxv ((d.drop p).take (j+1))):=hide (by
     rw[take_snocB _ _ (by omega),fxv_snoc,List.length_take,Nat.min_eq_left (by omega),gb_drop,ha])
    have hor2:Hid (bits .or .u64 (a:Int) (IntKind.u64.wrap (bv (gb d (p+j))*2^(8*j)))=((a+(gb d (p+j)).toNat*2^(8*j):Nat):Int)):=hide (by have:=hor.1;rwa [Nat.min_eq_left (by omega)] at this)
    have hor1:Hid (bits .or .u64 (a:Int) (IntKind.u64.wrap (bv (gb d (p+j))*2^min (8*j) 64))=((a+(gb d (p+j)).toNat*2^(8*j):Nat):Int)):=hide hor.1;have hxb:=bnd (gb d (p+j))
    have hq1:0≤(p:Int)+(j:Int)∧(p:Int)+(j:Int)<(d.length:Int):=by omega
    replace ha:=hide ha;clear hor hB hld h1 hal
    generalize gb d (p+j)=x at *
    go_wp2_with (fail)
    refine⟨⟨j+1,a+x.toNat*2^(8*j),by omega,by go_num,by first|rw[hor2.out]|rw[hor1.out],hnext.out,trivial⟩,?_⟩
    simp[intOf];omega
   ·obtain rfl:j=k:=by omega
    have hd:decide ((j:Int)<(j:Int))=false:=by simp
    replace ha:=hide ha;clear hld h1
    go_wp2_with (fail)
    go_ret3
    exact⟨by rw[←ha.out];rfl,Below.refl _ _⟩
def vnum:RV→Nat
 | .ok n _ _=>n
 | .er _=>0
def vdat:RV→List B
 | .ok _ p _=>p
 | .er _=>[]
def vend (p:Nat):RV→Int
 | .ok _ _ n=>((p+n:Nat):Int)
 | .er _=>0
def verr:RV→Int
 | .ok _ _ _=>0
 | .er e=>e
theorem results_tmp4 {fn:Func} {t u v x:Tmp} (h:fn.results=#[.tmp t,.tmp u,.tmp v,.tmp x]) (tmps:Array Value) (P:Program) (w:World):(results fn tmps).run P w=.ok (.tuple #[tmps.getD t undef,tmps.getD u undef,tmps.getD v undef,tmps.getD x undef]) w:=by
 simp[results,h]
set_option maxHeartbeats 4000000 in
theorem a_readValue (d:List B) (p:Nat) (t:Int) (hp:p≤d.length) (hk:known t) (w:World) (v:Value) (hB:BysB w v d) (hcap:∀a l c,v=.slice a l c→l≤c):Calls Tryz.prog 109 #[v,.int .i64 (p:Int),.int .i64 t] w fun e w'=>∃u,e=.returned (.tuple #[.int .u64 (vnum (rv (d.drop p) t):Int),u,.int .i64 (vend p (rv (d.drop p) t)),.int .i64 (verr (rv (d.drop p) t))])∧Own w' w.heap.size u (vdat (rv (d.drop p) t))∧Below w.heap.size w w':=by
 obtain⟨ao,cap,hve⟩:=hB.form
 have hrt:∀(a b c e:Value),True:=fun _ _ _ _=>trivial
 clear hrt
 rcases hk with rfl|rfl|rfl|rfl
 ·have cN:=a_number d p hp w v hB
  subst hve
  cases hr:rd 0 (d.drop p) with
  |er e=>
   have hv:rv (d.drop p) 0=.er e:=by simp[rv,hr]
   rw[hv];rw[hr] at cN;unfold nres at cN;simp only[vnum,vdat,vend,verr]
   go_enter Tryz.func109,Tryz.ntmps109
   go_wp2_with (fail)
   refine cN.mono ?_;rintro e_ w1 ⟨rfl,hb⟩
   go_wp2_with (fail)
   refine bodyPost_ret (results_tmp4 rfl _ _ _) rfl ?_;exact⟨_,rfl,own_none _ _,hb⟩
  |ok x n=>
   have hv:rv (d.drop p) 0=.ok x [] n:=by simp[rv,hr]
   rw[hv];rw[hr] at cN;unfold nres at cN;simp only[vnum,vdat,vend,verr]
   go_enter Tryz.func109,Tryz.ntmps109
   go_wp2_with (fail)
   refine cN.mono ?_;rintro e_ w1 ⟨rfl,hb⟩
   go_wp2_with (fail)
   refine bodyPost_ret (results_tmp4 rfl _ _ _) rfl ?_;exact⟨_,rfl,own_none _ _,hb⟩
 ·have cN:=a_readFixed d p 8 hp (by omega) w v hB
  rw[show((8:Nat):Int)=8 from rfl] at cN
  subst hve
  by_cases h8:(d.drop p).length<8
  ·have hv:rv (d.drop p) 1=.er 73:=by unfold rv;rw[if_pos rfl,if_pos h8]
   have hf:fres (d.drop p) p 8=.tuple #[.int .u64 0,.int .i64 0,.int .i64 73]:=if_pos h8
   rw[hv];rw[hf] at cN;clear hv hf h8;simp only[vnum,vdat,vend,verr]
   go_enter Tryz.func109,Tryz.ntmps109
   go_wp2_with (fail)
   refine cN.mono ?_;rintro e_ w1 ⟨rfl,hb⟩
   go_wp2_with (fail)
   refine bodyPost_ret (results_tmp4 rfl _ _ _) rfl ?_;exact⟨_,rfl,own_none _ _,hb⟩
  ·have hv:rv (d.drop p) 1=.ok (fxv ((d.drop p).take 8)) [] 8:=by unfold rv;rw[if_pos rfl,if_neg h8]
   have hf:fres (d.drop p) p 8=.tuple #[.int .u64 ((fxv ((d.drop p).take 8):Nat):Int),.int .i64 ((p+8:Nat):Int),.int .i64 0]:=if_neg h8
   rw[hv];rw[hf] at cN;clear hv hf h8;simp only[vnum,vdat,vend,verr]
   go_enter Tryz.func109,Tryz.ntmps109
   go_wp2_with (fail)
   refine cN.mono ?_;rintro e_ w1 ⟨rfl,hb⟩
   go_wp2_with (fail)
   refine bodyPost_ret (results_tmp4 rfl _ _ _) rfl ?_;exact⟨_,rfl,own_none _ _,hb⟩
 ·have cN:=a_readItem d p hp w v hB hcap
  have hvv:rv (d.drop p) 2=match ri (d.drop p) with
   | .er e=>.er e
   | .ok p n=>.ok 0 p n:=by simp[rv]
  subst hve
  cases hr:ri (d.drop p) with
  |er e=>
   rw[hvv,hr];rw[hr] at cN;simp only[vnum,vdat,vend,verr];simp only[rie,rir,rip] at cN;clear hvv
   go_enter Tryz.func109,Tryz.ntmps109
   go_wp2_with (fail)
   refine cN.mono ?_;rintro e_ w1 ⟨u,rfl,hO,hb⟩
   go_wp2_with (fail)
   refine bodyPost_ret (results_tmp4 rfl _ _ _) rfl ?_;exact⟨_,rfl,hO,hb⟩
  |ok x n=>
   rw[hvv,hr];rw[hr] at cN;simp only[vnum,vdat,vend,verr];simp only[rie,rir,rip] at cN;clear hvv
   go_enter Tryz.func109,Tryz.ntmps109
   go_wp2_with (fail)
   refine cN.mono ?_;rintro e_ w1 ⟨u,rfl,hO,hb⟩
   go_wp2_with (fail)
   refine bodyPost_ret (results_tmp4 rfl _ _ _) rfl ?_;exact⟨_,rfl,hO,hb⟩
 ·have cN:=a_readFixed d p 4 hp (by omega) w v hB
  rw[show((4:Nat):Int)=4 from rfl] at cN
  subst hve
  by_cases h8:(d.drop p).length<4
  ·have hv:rv (d.drop p) 5=.er 73:=by unfold rv;rw[if_neg (by decide),if_pos rfl,if_pos h8]
   have hf:fres (d.drop p) p 4=.tuple #[.int .u64 0,.int .i64 0,.int .i64 73]:=if_pos h8
   rw[hv];rw[hf] at cN;clear hv hf h8;simp only[vnum,vdat,vend,verr]
   go_enter Tryz.func109,Tryz.ntmps109
   go_wp2_with (fail)
   refine cN.mono ?_;rintro e_ w1 ⟨rfl,hb⟩
   go_wp2_with (fail)
   refine bodyPost_ret (results_tmp4 rfl _ _ _) rfl ?_;exact⟨_,rfl,own_none _ _,hb⟩
  ·have hv:rv (d.drop p) 5=.ok (fxv ((d.drop p).take 4)) [] 4:=by unfold rv;rw[if_neg (by decide),if_pos rfl,if_neg h8]
   have hf:fres (d.drop p) p 4=.tuple #[.int .u64 ((fxv ((d.drop p).take 4):Nat):Int),.int .i64 ((p+4:Nat):Int),.int .i64 0]:=if_neg h8
   rw[hv];rw[hf] at cN;clear hv hf h8;simp only[vnum,vdat,vend,verr]
   go_enter Tryz.func109,Tryz.ntmps109
   go_wp2_with (fail)
   refine cN.mono ?_;rintro e_ w1 ⟨rfl,hb⟩
   go_wp2_with (fail)
   refine bodyPost_ret (results_tmp4 rfl _ _ _) rfl ?_;exact⟨_,rfl,own_none _ _,hb⟩
def hres (p:Nat):RH→Value
 | .er e=>.tuple #[.agg #[.int .i64 0,.int .i64 0,.int .u64 0,.slice none 0 0],.int .i64 0,.int .i64 e]
 | .ok no ty n=>.tuple #[.agg #[.int .i64 no,.int .i64 ty,.int .u64 0,.slice none 0 0],.int .i64 ((p+n:Nat):Int),.int .i64 0]
theorem results_row_tmp2 {P:Program} {fn:Func} {p u x:Tmp} {ty:TypeId} (h:fn.results=#[.cell p ty,.tmp u,.tmp x]) (tmps:Array Value) (w:World) (g:Nat) (t:TypeId) (cs:Array Value) (fr:Nat×Nat) (d:TypeDesc)
 (hp:tmps.getD p undef=.pointer (some ⟨g,0,none⟩)) (hg:w.heap[g]? =some (.cells cs t fr))
 (hu:P.underlying ty=some d) (hd:(match d with| .struct _| .array _ _=>true|_=>false)=true) (hi:(P.info? ty).map (·.size)=some cs.size):
 (results fn tmps).run P w=.ok (.tuple #[.agg cs,tmps.getD u undef,tmps.getD x undef]) w:=by
 have hl:=run_loadVar_row (P:=P) w g t ty cs fr d hg hu hd hi;simp only[Array.getD_eq_getD_getElem?] at hp
 simp[results,h,hp,asAddr,hl]
set_option maxRecDepth 100000 in
set_option maxHeartbeats 4000000 in
theorem a_readHead (d:List B) (p:Nat) (last:Int) (c:Nat) (hp:p≤d.length) (w:World) (v:Value) (hB:BysB w v d):Calls Tryz.prog 108 #[v,.int .i64 (p:Int),.int .i64 last,.int .i64 (c:Int)] w fun e w'=>e=.returned (hres p (rh (d.drop p) last c))∧Below w.heap.size w w':=by
 obtain⟨ao,cap,hve⟩:=hB.form;have r0:=hp1_0 w (.cells #[.int .i64 0,.int .i64 0,.int .u64 0,.slice none 0 0] 118);have hw:Below w.heap.size w (w.alloc (.cells #[.int .i64 0,.int .i64 0,.int .u64 0,.slice none 0 0] 118)):=(Below.refl _ _).alloc (Nat.le_refl _) _;have cN:=a_number d p hp (w.alloc (.cells #[.int .i64 0,.int .i64 0,.int .u64 0,.slice none 0 0] 118)) v (hB.keep hw);subst hve
 have hone:(#[.int .i64 0,.int .i64 0,.int .u64 0,.slice none 0 0]:Array Value).all (·.oneCell')=true:=by simp[Value.oneCell']
 cases hr:rd 0 (d.drop p) with
 |er e=>
  have hh:rh (d.drop p) last c=.er e:=by unfold rh;rw[hr]
  have he:(e==0)=false:=by rcases rd_er _ _ _ hr with h|h<;>subst h<;>rfl
  rw[hh];rw[hr] at cN;unfold nres at cN;simp only[hres];clear hh hr
  go_enter Tryz.func108,Tryz.ntmps108
  go_wp2_with (first|(refine wpList_alloc rfl 118 rfl #[.int .i64 0,.int .i64 0,.int .u64 0,.slice none 0 0] zFd ?_)|fail)
  generalize w.alloc (.cells #[.int .i64 0,.int .i64 0,.int .u64 0,.slice none 0 0] 118)=w0 at *
  refine cN.mono ?_;rintro e_ w1 ⟨rfl,hb⟩;have r1:=keep hb r0;replace hw:=hw.trans (hb.mono hw.size);clear cN
  go_wp2_with (first|(refine wpList_store_row rfl 118 _ _ rfl (w.heap.size) #[.int .i64 0,.int .i64 0,.int .u64 0,.slice none 0 0] rfl rfl 118 _ r1 infoF rfl hone ?_)|fail)
  replace r1:=setRow_heap _ w.heap.size _ #[.int .i64 0,.int .i64 0,.int .u64 0,.slice none 0 0] _ _ r1;replace hw:=below_setRow hw (Nat.le_refl _) #[.int .i64 0,.int .i64 0,.int .u64 0,.slice none 0 0];exact bodyPost_ret (results_row_tmp2 rfl _ _ (w.heap.size) _ _ _ _ rfl r1 Tryz.underlying118 rfl infoF) rfl ⟨rfl,hw⟩
 |ok x n=>
  rw[hr] at cN;unfold nres at cN;have hx:=(rd0_ok hr).2.2
  have hh:rh (d.drop p) last c=if c=64 then .er 2 else if 536870911<x/8 then .er 71 else
   if hck ⟨((x:Int)/8),((x:Int)%8),0,[]⟩ last≠0 then .er (hck ⟨((x:Int)/8),((x:Int)%8),0,[]⟩ last)
   else .ok ((x:Int)/8) ((x:Int)%8) n:=by unfold rh;rw[hr]
  by_cases h1:c=64
  ·rw[if_pos h1] at hh
   have d1:((c:Int)==64)=true:=by simp;omega
   rw[hh];simp only[hres];clear hh hr;replace h1:=hide h1
   go_enter Tryz.func108,Tryz.ntmps108
   go_wp2_with (first|(refine wpList_alloc rfl 118 rfl #[.int .i64 0,.int .i64 0,.int .u64 0,.slice none 0 0] zFd ?_)|fail)
   generalize w.alloc (.cells #[.int .i64 0,.int .i64 0,.int .u64 0,.slice none 0 0] 118)=w0 at *
   refine cN.mono ?_;rintro e_ w1 ⟨rfl,hb⟩;have r1:=keep hb r0;replace hw:=hw.trans (hb.mono hw.size);clear cN
   go_wp2_with (first|(refine wpList_store_row rfl 118 _ _ rfl (w.heap.size) #[.int .i64 0,.int .i64 0,.int .u64 0,.slice none 0 0] rfl rfl 118 _ r1 infoF rfl hone ?_)|fail)
   replace r1:=setRow_heap _ w.heap.size _ #[.int .i64 0,.int .i64 0,.int .u64 0,.slice none 0 0] _ _ r1;replace hw:=below_setRow hw (Nat.le_refl _) #[.int .i64 0,.int .i64 0,.int .u64 0,.slice none 0 0];exact bodyPost_ret (results_row_tmp2 rfl _ _ (w.heap.size) _ _ _ _ rfl r1 Tryz.underlying118 rfl infoF) rfl ⟨rfl,hw⟩
  rw[if_neg h1] at hh
  have d1:((c:Int)==64)=false:=by simp;omega
  by_cases h2:536870911<x/8
  ·rw[if_pos h2] at hh
   have d2:decide ((x:Int)/8>536870911)=true:=by simp;omega
   rw[hh];simp only[hres];clear hh hr
   go_enter Tryz.func108,Tryz.ntmps108
   go_wp2_with (first|(refine wpList_alloc rfl 118 rfl #[.int .i64 0,.int .i64 0,.int .u64 0,.slice none 0 0] zFd ?_)|fail)
   generalize w.alloc (.cells #[.int .i64 0,.int .i64 0,.int .u64 0,.slice none 0 0] 118)=w0 at *
   refine cN.mono ?_;rintro e_ w1 ⟨rfl,hb⟩;have r1:=keep hb r0;replace hw:=hw.trans (hb.mono hw.size);clear cN
   go_wp2_with (first|(refine wpList_store_row rfl 118 _ _ rfl (w.heap.size) #[.int .i64 0,.int .i64 0,.int .u64 0,.slice none 0 0] rfl rfl 118 _ r1 infoF rfl hone ?_)|fail)
   replace r1:=setRow_heap _ w.heap.size _ #[.int .i64 0,.int .i64 0,.int .u64 0,.slice none 0 0] _ _ r1;replace hw:=below_setRow hw (Nat.le_refl _) #[.int .i64 0,.int .i64 0,.int .u64 0,.slice none 0 0];exact bodyPost_ret (results_row_tmp2 rfl _ _ (w.heap.size) _ _ _ _ rfl r1 Tryz.underlying118 rfl infoF) rfl ⟨rfl,hw⟩
  rw[if_neg h2] at hh
  have d2:decide ((x:Int)/8>536870911)=false:=by simp;omega
  have cH:=a_checkHead ⟨((x:Int)/8),((x:Int)%8),0,[]⟩ (.slice none 0 0) last;unfold fagg at cH
  have hone2:(#[.int .i64 ((x:Int)/8),.int .i64 ((x:Int)%8),.int .u64 0,.slice none 0 0]:Array Value).all (·.oneCell')=true:=by simp[Value.oneCell']
  have hb1:x/8≤536870911:=by omega
  have hb2:x%8<8:=by omega
  clear hr h1 h2
  go_enter Tryz.func108,Tryz.ntmps108
  go_wp2_with (first|(refine wpList_alloc rfl 118 rfl #[.int .i64 0,.int .i64 0,.int .u64 0,.slice none 0 0] zFd ?_)|fail)
  generalize w.alloc (.cells #[.int .i64 0,.int .i64 0,.int .u64 0,.slice none 0 0] 118)=w0 at *
  refine cN.mono ?_;rintro e_ w1 ⟨rfl,hb⟩;have r1:=keep hb r0;have l1:=lt_of_row r1;replace hw:=hw.trans (hb.mono hw.size);have q0:=hp1_0 w1 (.cells #[.int .i64 0,.int .i64 0,.int .u64 0,.slice none 0 0] 118);have q1:=setRow_heap _ w1.heap.size _ #[.int .i64 ((x:Int)/8),.int .i64 ((x:Int)%8),.int .u64 0,.slice none 0 0] _ _ q0;have hba:Below w1.heap.size w1 (w1.alloc (.cells #[.int .i64 0,.int .i64 0,.int .u64 0,.slice none 0 0] 118)):=(Below.refl _ _).alloc (Nat.le_refl _) _;replace hba:=below_setRow hba (Nat.le_refl _) #[.int .i64 ((x:Int)/8),.int .i64 ((x:Int)%8),.int .u64 0,.slice none 0 0];have cH0:=cH ((w1.alloc (.cells #[.int .i64 0,.int .i64 0,.int .u64 0,.slice none 0 0] 118)).setRow w1.heap.size #[.int .i64 ((x:Int)/8),.int .i64 ((x:Int)%8),.int .u64 0,.slice none 0 0]);clear cN cH r0
  go_wp2_with (first|(refine wpList_alloc rfl 118 rfl #[.int .i64 0,.int .i64 0,.int .u64 0,.slice none 0 0] zFd ?_)|(refine wpList_store_row rfl 118 _ _ rfl (w1.heap.size) #[.int .i64 ((x:Int)/8),.int .i64 ((x:Int)%8),.int .u64 0,.slice none 0 0] rfl rfl 118 _ q0 infoF rfl hone2 ?_)|(refine wpList_load_want rfl 118 _ rfl (w1.heap.size) rfl 118 #[.int .i64 ((x:Int)/8),.int .i64 ((x:Int)%8),.int .u64 0,.slice none 0 0] (0,0) _ q1 Tryz.underlying118 rfl infoF ?_)|fail)
  have l2:=lt_of_row q1
  generalize (w1.alloc (.cells #[.int .i64 0,.int .i64 0,.int .u64 0,.slice none 0 0] 118)).setRow w1.heap.size #[.int .i64 ((x:Int)/8),.int .i64 ((x:Int)%8),.int .u64 0,.slice none 0 0]=w2 at *
  refine cH0.mono ?_;rintro e_ w3 ⟨rfl,hb3⟩;replace r1:=keep hb3 (keep hba r1);replace q1:=keep hb3 q1;replace hw:=(hw.trans (hba.mono hw.size)).trans (hb3.mono (Nat.le_trans hw.size hba.size));clear cH0 hb hba hb3 q0
  by_cases h3:hck ⟨((x:Int)/8),((x:Int)%8),0,[]⟩ last=0
  ·rw[if_neg (by rw[h3];simp)] at hh
   rw[h3]
   have hfin:Hid (hres p (rh (d.drop p) last c)=.tuple #[.agg #[.int .i64 ((x:Int)/8),.int .i64 ((x:Int)%8),.int .u64 0,.slice none 0 0],.int .i64 ((p+n:Nat):Int),.int .i64 0]):=hide (by rw[hh];rfl)
   clear hh h3
   go_wp2_with (first|(refine wpList_load_want rfl 118 _ rfl (w1.heap.size) rfl 118 #[.int .i64 ((x:Int)/8),.int .i64 ((x:Int)%8),.int .u64 0,.slice none 0 0] (0,0) _ q1 Tryz.underlying118 rfl infoF ?_)|(refine wpList_store_row rfl 118 _ _ rfl (w.heap.size) #[.int .i64 ((x:Int)/8),.int .i64 ((x:Int)%8),.int .u64 0,.slice none 0 0] rfl rfl 118 _ r1 infoF rfl hone2 ?_)|fail)
   replace r1:=setRow_heap _ w.heap.size _ #[.int .i64 ((x:Int)/8),.int .i64 ((x:Int)%8),.int .u64 0,.slice none 0 0] _ _ r1;replace hw:=below_setRow hw (Nat.le_refl _) #[.int .i64 ((x:Int)/8),.int .i64 ((x:Int)%8),.int .u64 0,.slice none 0 0]
   exact bodyPost_ret (results_row_tmp2 rfl _ _ (w.heap.size) _ _ _ _ rfl r1 Tryz.underlying118 rfl infoF) rfl ⟨by rw[hfin.out];rfl,hw⟩
  ·rw[if_pos h3] at hh
   have he:(hck ⟨((x:Int)/8),((x:Int)%8),0,[]⟩ last==0)=false:=by simpa using h3
   generalize hck ⟨((x:Int)/8),((x:Int)%8),0,[]⟩ last=E at *
   have hfin:Hid (hres p (rh (d.drop p) last c)=.tuple #[.agg #[.int .i64 0,.int .i64 0,.int .u64 0,.slice none 0 0],.int .i64 0,.int .i64 E]):=hide (by rw[hh];rfl)
   clear hh h3
   go_wp2_with (first|(refine wpList_store_row rfl 118 _ _ rfl (w.heap.size) #[.int .i64 0,.int .i64 0,.int .u64 0,.slice none 0 0] rfl rfl 118 _ r1 infoF rfl hone ?_)|fail)
   replace r1:=setRow_heap _ w.heap.size _ #[.int .i64 0,.int .i64 0,.int .u64 0,.slice none 0 0] _ _ r1;replace hw:=below_setRow hw (Nat.le_refl _) #[.int .i64 0,.int .i64 0,.int .u64 0,.slice none 0 0]
   exact bodyPost_ret (results_row_tmp2 rfl _ _ (w.heap.size) _ _ _ _ rfl r1 Tryz.underlying118 rfl infoF) rfl ⟨by rw[hfin.out];rfl,hw⟩
end Go.Proofs.YtmmlkfkpblokiaaGreatDoor
namespace Go.Proofs.YtmmlkfkpblokiaaGreatDoor
set_option maxRecDepth 100000
open Go Go.RowKit Go.Sort
attribute [local go_sem] setCell_drewN alloc_drewN
def WpStay (p:Prop):Prop:=p
theorem wpList_stay {P:Program} {ops:Array Oper} {rest:List Oper} {a:Act} {w:World} {Q:Exit→Act→World→Prop} (h:WpStay (wpList P ops Q rest a w)):wpList P ops Q rest a w:=h
theorem own_other {W:World} {b n g j:Nat} {v u:Value} {xs:List Value} (h:W.ownsRow b 5 1 v n xs) (hg:g<b):(W.setCell ⟨g,j,none⟩ u).ownsRow b 5 1 v n xs:=by
 obtain⟨h1,h2|⟨g',cap,cur,rfl,hb,hg',h3⟩⟩:=h
 ·exact⟨h1,.inl h2⟩
 ·exact⟨h1,.inr ⟨g',cap,cur,rfl,hb,heap_other hg' (by omega),h3⟩⟩
def whl (d:List B):Nat→Nat→Int→Nat→List (Nat×Fd)×Option (Nat×Int)
 |0,_,_,_=>([],none)
 |k+1,p,last,c=>
  if p<d.length then
   match rh (d.drop p) last c with
   | .er e=>([],some (p,e))
   | .ok no ty n=>match rv (d.drop (p+n)) ty with
    | .er e=>([],some (p+n,e))
    | .ok num dat m=>((p,⟨no,ty,num,dat⟩)::(whl d k (p+n+m) no (c+1)).1,(whl d k (p+n+m) no (c+1)).2)
  else([],none)
theorem rh_ok {l:List B} {last:Int} {c:Nat} {no ty:Int} {n:Nat} (h:rh l last c=.ok no ty n):0<n∧n≤l.length∧c≠64∧known ty∧last<no∧no≤536870911∧0≤no:=by
 unfold rh at h
 cases hr:rd 0 l with
 |er e=>rw[hr] at h;cases h
 |ok v m=>
  rw[hr] at h;simp only at h;have hl:=rd0_len hr
  by_cases h1:c=64
  ·rw[if_pos h1] at h;cases h
  rw[if_neg h1] at h
  by_cases h2:536870911<v/8
  ·rw[if_pos h2] at h;cases h
  rw[if_neg h2] at h
  by_cases h3:hck ⟨((v:Int)/8),((v:Int)%8),0,[]⟩ last=0
  ·rw[if_neg (by rw[h3];simp)] at h
   injection h with e1 e2 e3
   unfold hck at h3;simp only at h3
   by_cases h4:(v:Int)/8≤last∨536870911<(v:Int)/8
   ·rw[if_pos h4] at h3;cases h3
   rw[if_neg h4] at h3
   by_cases h5:known ((v:Int)%8)
   ·subst e1 e2 e3
    exact⟨hl.1,hl.2.1,h1,h5,by omega,by omega,by omega⟩
   ·rw[if_neg h5] at h3;cases h3
  ·rw[if_pos h3] at h;cases h
theorem rh_er {l:List B} {last:Int} {c:Nat} {e:Int} (h:rh l last c=.er e):e≠0:=by
 unfold rh at h
 cases hr:rd 0 l with
 |er e'=>
  rw[hr] at h
  injection h with h
  subst h
  rcases rd_er _ _ _ hr with h|h<;>subst h<;>decide
 |ok v m=>
  rw[hr] at h;simp only at h
  split at h
  ·injection h with h;subst h;decide
  ·split at h
   ·injection h with h;subst h;decide
   ·split at h
    ·rename_i h3
     injection h with h;subst h;exact h3
    ·cases h
theorem rv_ok {l:List B} {t:Int} {num n:Nat} {dat:List B} (h:rv l t=.ok num dat n):n≤l.length∧num<18446744073709551616∧dat.length≤l.length:=by
 unfold rv at h
 split at h
 ·split at h
  ·cases h
  ·injection h with h1 h2 h3
   subst h1 h2 h3
   have:=fxv_lt2 (l.take 8)
   rw[List.length_take,Nat.min_eq_left (by omega)] at this
   exact⟨by omega,by omega,by simp⟩
 split at h
 ·split at h
  ·cases h
  ·injection h with h1 h2 h3
   subst h1 h2 h3
   have:=fxv_lt2 (l.take 4)
   rw[List.length_take,Nat.min_eq_left (by omega)] at this
   exact⟨by omega,by omega,by simp⟩
 split at h
 ·cases hr:ri l with
  |er e=>rw[hr] at h;cases h
  |ok p m=>
   rw[hr] at h
   injection h with h1 h2 h3
   subst h1 h2 h3;have:=ri_ok hr
   exact⟨this.2.1,by omega,this.2.2.2.2⟩
 ·cases hr:rd 0 l with
  |er e=>rw[hr] at h;cases h
  |ok v m=>
   rw[hr] at h
   injection h with h1 h2 h3
   subst h1 h2 h3
   exact⟨(rd0_len hr).2.1,(rd0_ok hr).2.2,by simp⟩
theorem rv_er {l:List B} {t e:Int} (h:rv l t=.er e):e≠0:=by
 unfold rv at h
 split at h
 ·split at h
  ·injection h with h;subst h;decide
  ·cases h
 split at h
 ·split at h
  ·injection h with h;subst h;decide
  ·cases h
 split at h
 ·cases hr:ri l with
  |er e'=>
   rw[hr] at h
   injection h with h
   subst h
   rcases ri_er hr with h|h<;>subst h<;>decide
  |ok p m=>rw[hr] at h;cases h
 ·cases hr:rd 0 l with
  |er e'=>
   rw[hr] at h
   injection h with h
   subst h
   rcases rd_er _ _ _ hr with h|h<;>subst h<;>decide
  |ok v m=>rw[hr] at h;cases h
theorem whl_end {d:List B} {k p:Nat} {last:Int} {c:Nat} (h:¬p<d.length):whl d k p last c=([],none):=by
 cases k with
 |zero=>rfl
 |succ k=>rw[whl,if_neg h]
theorem whl_head {d:List B} {k p:Nat} {last:Int} {c:Nat} {e:Int} (h:p<d.length) (hk:d.length-p≤k) (hr:rh (d.drop p) last c=.er e):whl d k p last c=([],some (p,e)):=by
 cases k with
 |zero=>omega
 |succ k=>rw[whl,if_pos h,hr]
theorem whl_value {d:List B} {k p:Nat} {last:Int} {c:Nat} {no ty:Int} {n:Nat} {e:Int} (h:p<d.length) (hk:d.length-p≤k) (hr:rh (d.drop p) last c=.ok no ty n) (hv:rv (d.drop (p+n)) ty=.er e):whl d k p last c=([],some (p+n,e)):=by
 cases k with
 |zero=>omega
 |succ k=>rw[whl,if_pos h,hr];simp only;rw[hv]
theorem whl_step {d:List B} {k p:Nat} {last:Int} {c:Nat} {no ty:Int} {n num m:Nat} {dat:List B} (h:p<d.length) (hk:d.length-p≤k) (hr:rh (d.drop p) last c=.ok no ty n) (hv:rv (d.drop (p+n)) ty=.ok num dat m):∃j,d.length-(p+n+m)≤j∧whl d k p last c=((p,⟨no,ty,num,dat⟩)::(whl d j (p+n+m) no (c+1)).1,(whl d j (p+n+m) no (c+1)).2):=by
 have:=(rh_ok hr).1
 cases k with
 |zero=>omega
 |succ k=>exact⟨k,by omega,by rw[whl,if_pos h,hr];simp only;rw[hv]⟩
theorem row_set {W:World} {g:Nat} {cs:Array Value} {t:TypeId} (hg:W.heap[g]? =some (.cells cs t (0,0))) (j:Nat) (z:Value):(W.setCell ⟨g,j,none⟩ z).heap[g]? =some (.cells (cs.setIfInBounds j z) t (0,0)):=
 heap_setCell_same W g j _ t _ hg
theorem wp_skip_op {P:Program} {o:Oper} {a:Act} {w:World} {K:Act→World→Prop} {Q:Exit→Act→World→Prop} (w':World) (hx:(execOp a.eval o).run P w=.ok .skip w') (h:K (a.put o.dst undef) w'):o.wp P a w K Q:=by
 unfold Oper.wp;rw[hx,Oper.upon_skip];exact h
theorem wpListIn_load_want {F:Fence} {n:Nat} {P:Program} {ops:Array Oper} {rest:List Oper} {o:Oper} {a:Act} {w:World} {Q:Exit→Act→World→Prop} (hg:o.guard=none) (ty:TypeId) (x:Operand) (ho:o.op=.load ty x)
 (g:Nat) (hx:a.eval x=.pointer (some ⟨g,0,none⟩)) (t:TypeId) (cs:Array Value) (fr:Nat×Nat) (d:TypeDesc) (hr:w.heap[g]? =some (.cells cs t fr))
 (hu:P.underlying ty=some d) (hd:(match d with| .struct _| .array _ _=>true|_=>false)=true) (hi:(P.info? ty).map (·.size)=some cs.size)
 (h:wpListIn F n P ops Q rest (a.put o.dst (.agg cs)) w):wpListIn F n P ops Q (o::rest) a w:=by
 refine wpListIn_plain hg fun K hK=>?_
 refine⟨?_,?_⟩
 ·intro f hf
  simp[Oper.about,ho] at hf
 ·rw[Oper.semAt_plain F _ _ (by rw[ho];intro c hc;cases hc)]
  unfold execOp
  simp only[ho,hx,Instr.loadAt,Instr.sureAddr,Sem.run_bind,Sem.run_pure,Result.andThen_ok,run_loadVar_row w g t ty cs fr d hr hu hd hi];exact hK _ _ h
def wkr (v:Value):Array Value:=#[v,.int .i64 0,.int .i64 0]
set_option maxRecDepth 100000 in
set_option maxHeartbeats 4000000 in
theorem a_fields (d:List B) (v:Value) (wk l:Nat) (J Jx:List (Nat×Fd)→World→Prop) (hcap:∀a l c,v=.slice a l c→l≤c)
 (hJb:∀pre A C,J pre A→Below A.heap.size A C→J pre C)
 (hJr:∀pre A,J pre A→A.heap[wk]? =some (.cells (wkr v) 165 (0,0))∧BysB A v d)
 (hY:∀pre (x:Nat×Fd) u A C,J pre A→Below A.heap.size A C→Own C A.heap.size u x.2.dat→x.1<d.length→Fok x.2→pre.length<64→YieldAt Fence.wide 2 Tryz.prog l #[.int .i64 (x.1:Int),.agg #[.int .i64 x.2.no,.int .i64 x.2.ty,.int .u64 (x.2.num:Int),u]] C fun e C'=>
  (e=.returned (.bool true)∧J (pre++[x]) C'∧∀g,A.heap.size≤g→g<C.heap.size→C'.heap[g]? =C.heap[g]?)∨(e=.returned (.bool false)∧Jx (pre++[x]) C'))
 (w:World) (h0:J [] w) (hd4:d.length≤4194304):
 Calls Tryz.prog 83 #[.pointer (some ⟨wk,0,none⟩),.func (.yield l) #[] #[]] w fun e w'=>(∃r,e=.returned r)∧
  (((whl d d.length 0 0 0).2=none∧J (whl d d.length 0 0 0).1 w')∨
   (∃p e0 W,(whl d d.length 0 0 0).2=some (p,e0)∧J (whl d d.length 0 0 0).1 W∧w'=(W.setCell ⟨wk,1,none⟩ (.int .i64 (p:Int))).setCell ⟨wk,2,none⟩ (.int .i64 e0))∨
   (∃pre,pre<+:(whl d d.length 0 0 0).1∧Jx pre w')):=by
 have hdl:=(hJr _ _ h0).2.2.1;obtain⟨ao,cap,rfl⟩:=(hJr _ _ h0).2.form
 go_enter Tryz.func83,Tryz.ntmps83
 go_wp2_with (fail)
 go_loopw [4,5,6] (fun a0 b0 c0 wr=>∃(p k:Nat) (last:Int) (pre:List (Nat×Fd)),p≤d.length∧pre.length≤64∧d.length-p≤k∧0≤last∧last≤536870911∧a0=.int .i64 (p:Int)∧b0=.int .i64 last∧c0=.int .i64 (pre.length:Int)∧whl d d.length 0 0 0=(pre++(whl d k p last pre.length).1,(whl d k p last pre.length).2)∧J pre wr) (fun a0 _ _ _=>d.length-(intOf a0).toNat)
 case atStart=>exact⟨0,d.length,0,[],by omega,by simp,by omega,by omega,by omega,rfl,rfl,rfl,by simp,h0⟩
 case round=>
  obtain⟨p,k,last,pre,hp,hpl,hk,hl0,hl1,rfl,rfl,rfl,hwh,hJ⟩:=hrel;clear h0;obtain⟨hrow,hB⟩:=hJr _ _ hJ;have hwl:=lt_of_row hrow
  have cb:wr.cell? ⟨wk,0,none⟩=some (.slice ao d.length cap):=by rw[cell_of_row wr wk 0 _ _ _ hrow];rfl
  by_cases hlt:p<d.length
  ·have hd:decide ((p:Int)<(d.length:Int))=true:=by simp;omega
   have cH:=a_readHead d p last pre.length hp wr _ hB
   cases hr:rh (d.drop p) last pre.length with
   |er e=>
    have hfin:Hid (whl d d.length 0 0 0=(pre,some (p,e))):=hide (by rw[hwh,whl_head hlt hk hr];simp)
    have he:(e==0)=false:=by simpa using rh_er hr
    rw[hr] at cH;simp only[hres] at cH;clear hr hwh
    generalize pre.length=pl at *
    go_wp2_with (fail)
    refine cH.mono ?_;rintro e_ w1 ⟨rfl,hb⟩;have hrow1:=keep hb hrow;have r0:=hp1_0 w1 (.cells #[.int .i64 0,.int .i64 0,.int .u64 0,.slice none 0 0] 118);have hba:Below wr.heap.size wr (w1.alloc (.cells #[.int .i64 0,.int .i64 0,.int .u64 0,.slice none 0 0] 118)):=hb.alloc hb.size _
    have hone:(#[.int .i64 0,.int .i64 0,.int .u64 0,.slice none 0 0]:Array Value).all (·.oneCell')=true:=by simp[Value.oneCell']
    clear cH
    go_wp2_with (first|(refine wpList_alloc rfl 118 rfl #[.int .i64 0,.int .i64 0,.int .u64 0,.slice none 0 0] zFd ?_)|(refine wpList_store_row rfl 118 _ _ rfl (w1.heap.size) #[.int .i64 0,.int .i64 0,.int .u64 0,.slice none 0 0] rfl rfl 118 _ r0 infoF rfl hone ?_;refine wpList_stay ?_)|fail)
    unfold WpStay;have hrow2:((w1.alloc (.cells #[.int .i64 0,.int .i64 0,.int .u64 0,.slice none 0 0] 118)).setRow w1.heap.size #[.int .i64 0,.int .i64 0,.int .u64 0,.slice none 0 0]).heap[wk]? =some (.cells (wkr (.slice ao d.length cap)) 165 (0,0)):=keep (below_setRow hba hb.size _) hrow;have hJ2:=hJb _ _ _ hJ (below_setRow hba hb.size #[.int .i64 0,.int .i64 0,.int .u64 0,.slice none 0 0])
    generalize (w1.alloc (.cells #[.int .i64 0,.int .i64 0,.int .u64 0,.slice none 0 0] 118)).setRow w1.heap.size #[.int .i64 0,.int .i64 0,.int .u64 0,.slice none 0 0]=w2 at *
    clear r0 hba hb hrow1 hone
    have c1:w2.cell? ⟨wk,1,none⟩=some (.int .i64 0):=by rw[cell_of_row w2 wk 1 _ _ _ hrow2];rfl
    have c2:w2.cell? ⟨wk,2,none⟩=some (.int .i64 0):=by rw[cell_of_row w2 wk 2 _ _ _ hrow2];rfl
    have f1:w2.frozen? ⟨wk,1,none⟩=false:=by simp[World.frozen?,hrow2]
    have f2:w2.frozen? ⟨wk,2,none⟩=false:=by simp[World.frozen?,hrow2]
    have c3:(w2.setCell ⟨wk,1,none⟩ (.int .i64 (p:Int))).cell? ⟨wk,2,none⟩=some (.int .i64 0):=by rw[World.cell?_setCell_other _ _ _ _ (by simp)];exact c2
    have f3:(w2.setCell ⟨wk,1,none⟩ (.int .i64 (p:Int))).frozen? ⟨wk,2,none⟩=false:=by rw[World.frozen?_setCell];exact f2
    go_wp2_with (fail)
    refine bodyPost_ret (results_none rfl _ _ _) rfl ?_;rw[hfin.out];exact⟨⟨_,rfl⟩,.inr (.inl ⟨p,e,w2,rfl,hJ2,rfl⟩)⟩
   |ok no ty n=>
    obtain⟨hn0,hnl,hc64,hty,hno0,hno1,hno2⟩:=rh_ok hr;rw[List.length_drop] at hnl
    have hpn:p+n≤d.length:=by omega
    rw[hr] at cH;simp only[hres] at cH;obtain⟨q,hqe⟩:∃q,Hid (q=p+n):=⟨_,hide rfl⟩
    have hpn2:q≤d.length:=by rw[hqe.out];exact hpn
    rw[←hqe.out] at cH;have hr2:=hide hr;have hwh2:=hide hwh;clear hr hwh
    have hpl2:pre.length<64:=by omega
    have hpre:=hide (rfl:pre.length=pre.length);obtain⟨pl,hple⟩:∃pl,Hid (pl=pre.length):=⟨_,hide rfl⟩
    rw[←hple.out] at cH hpl2⊢
    clear hpl hc64 hpre
    go_wp2_with (fail)
    refine cH.mono ?_;rintro e_ w1 ⟨rfl,hb⟩;have r0:=hp1_0 w1 (.cells #[.int .i64 0,.int .i64 0,.int .u64 0,.slice none 0 0] 118);have hba:Below wr.heap.size wr (w1.alloc (.cells #[.int .i64 0,.int .i64 0,.int .u64 0,.slice none 0 0] 118)):=hb.alloc hb.size _
    have hone:(#[.int .i64 no,.int .i64 ty,.int .u64 0,.slice none 0 0]:Array Value).all (·.oneCell')=true:=by simp[Value.oneCell']
    clear cH
    go_wp2_with (first|(refine wpList_alloc rfl 118 rfl #[.int .i64 0,.int .i64 0,.int .u64 0,.slice none 0 0] zFd ?_)|(refine wpList_store_row rfl 118 _ _ rfl (w1.heap.size) #[.int .i64 no,.int .i64 ty,.int .u64 0,.slice none 0 0] rfl rfl 118 _ r0 infoF rfl hone ?_;refine wpList_stay ?_)|fail)
    unfold WpStay;have hq:=below_setRow hba hb.size #[.int .i64 no,.int .i64 ty,.int .u64 0,.slice none 0 0];have rF:=setRow_heap _ w1.heap.size _ #[.int .i64 no,.int .i64 ty,.int .u64 0,.slice none 0 0] _ _ r0;have hgl:wr.heap.size≤w1.heap.size:=hb.size
    generalize (w1.alloc (.cells #[.int .i64 0,.int .i64 0,.int .u64 0,.slice none 0 0] 118)).setRow w1.heap.size #[.int .i64 no,.int .i64 ty,.int .u64 0,.slice none 0 0]=w2 at *
    clear r0 hba hb hone
    generalize w1.heap.size=g at *
    go_wp2_with (fail)
    have hbd:Below w2.heap.size w2 w2.drew:=below_drN (Below.refl _ _) 1;replace hq:=Below.after hq hbd;replace rF:=keep hbd rF;clear hbd
    have hS:w2.drew.cell? ⟨wk,0,none⟩=some (.slice ao d.length cap)∧w2.drew.cell? ⟨g,1,none⟩=some (.int .i64 ty):=⟨by rw[cell_of_row _ wk 0 _ _ _ (keep hq hrow)];rfl,by rw[cell_of_row _ g 1 _ _ _ rF];rfl⟩
    refine wp_region_noPanic ?_
    refine wp_region_held (S:=fun W=>W.cell? ⟨wk,0,none⟩=some (.slice ao d.length cap)∧W.cell? ⟨g,1,none⟩=some (.int .i64 ty)) (by kernel_rfl) ?_
    change wpAnyH _ _ _ _ _ _ _ _ (World.drew _)
    generalize w2.drew=w3 at *
    refine wpAnyH_take (i:=0) (v:=?v1) rfl (by kernel_rfl) (by kernel_rfl) (by kernel_rfl) (fun _ _ _ h=>h) (Or.inl ⟨by rfl,?y1⟩) hS ?r1
    case y1=>
     intro w_ hS_;go_simp
     try with_reducible rfl
    simp only[Act.put,List.getElem_toArray,List.getElem_cons_zero,List.setIfInBounds_toArray,List.set_cons_succ,List.set_cons_zero]
    refine wpAnyH_take (i:=1) (v:=?v2) rfl (by kernel_rfl) (by kernel_rfl) (by kernel_rfl) (fun _ _ _ h=>h) (Or.inl ⟨by rfl,?y2⟩) hS ?r2
    case y2=>
     intro w_ hS_;go_simp
     try with_reducible rfl
    simp only[Act.put,List.getElem_toArray,List.getElem_cons_succ,List.getElem_cons_zero,List.setIfInBounds_toArray,List.set_cons_succ,List.set_cons_zero]
    refine wpAnyH_take (i:=2) (v:=?v3) rfl (by kernel_rfl) (by kernel_rfl) (by kernel_rfl) (fun _ _ _ h=>h) (Or.inl ⟨by rfl,?y3⟩) hS ?r3
    case y3=>
     intro w_ hS_;go_simp
     try with_reducible rfl
    simp only[Act.put,List.getElem_toArray,List.getElem_cons_succ,List.getElem_cons_zero,List.setIfInBounds_toArray,List.set_cons_succ,List.set_cons_zero]
    refine wpAnyH_take (i:=3) (v:=.slice ao d.length cap) rfl (by kernel_rfl) (by kernel_rfl) (by kernel_rfl) (fun _ _ _ h=>h) (Or.inl ⟨by rfl,?y4⟩) hS ?r4
    case y4=>
     intro w_ hS_;have c_:=hS_.1;go_simp
     try with_reducible rfl
    simp only[Act.put,List.getElem_toArray,List.getElem_cons_succ,List.getElem_cons_zero,List.setIfInBounds_toArray,List.set_cons_succ,List.set_cons_zero]
    refine wpAnyH_take (i:=4) (v:=?v5) rfl (by kernel_rfl) (by kernel_rfl) (by kernel_rfl) (fun _ _ _ h=>h) (Or.inl ⟨by rfl,?y5⟩) hS ?r5
    case y5=>
     intro w_ hS_;go_simp
     try with_reducible rfl
    simp only[Act.put,List.getElem_toArray,List.getElem_cons_succ,List.getElem_cons_zero,List.setIfInBounds_toArray,List.set_cons_succ,List.set_cons_zero]
    refine wpAnyH_take (i:=5) (v:=?v6) rfl (by kernel_rfl) (by kernel_rfl) (by kernel_rfl) (fun _ _ _ h=>h) (Or.inl ⟨by rfl,?y6⟩) hS ?r6
    case y6=>
     intro w_ hS_;go_simp
     try with_reducible rfl
    simp only[Act.put,List.getElem_toArray,List.getElem_cons_succ,List.getElem_cons_zero,List.setIfInBounds_toArray,List.set_cons_succ,List.set_cons_zero]
    refine wpAnyH_take (i:=6) (v:=.int .i64 ty) rfl (by kernel_rfl) (by kernel_rfl) (by kernel_rfl) (fun _ _ _ h=>h) (Or.inl ⟨by rfl,?y7⟩) hS ?r7
    case y7=>
     intro w_ hS_;have c_:=hS_.2;go_simp
     try with_reducible rfl
    simp only[Act.put,List.getElem_toArray,List.getElem_cons_succ,List.getElem_cons_zero,List.setIfInBounds_toArray,List.set_cons_succ,List.set_cons_zero]
    refine wpAnyH_one (k:=7) (fuel:=11) (by kernel_rfl) rfl (by kernel_rfl) (fun K_ hK=>?_)
    refine wp_call_ex (f:=109) (R:=fun v_ w_=>∃u,v_=.tuple #[.int .u64 (vnum (rv (d.drop q) ty):Int),u,.int .i64 (vend q (rv (d.drop q) ty)),.int .i64 (verr (rv (d.drop q) ty))]∧Own w_ w3.heap.size u (vdat (rv (d.drop q) ty))∧Below w3.heap.size w3 w_) (by kernel_rfl) ((a_readValue d q ty hpn2 hty w3 _ (hB.keep hq) hcap).mono (fun e_ w_ h_=>by obtain⟨u_,h1_,h2_,h3_⟩:=h_;exact⟨_,h1_,u_,rfl,h2_,h3_⟩)) (fun v_ w4 hX_=>?_)
    obtain⟨u,rfl,hO,hb_⟩:=hX_;have hg3:g<w3.heap.size:=lt_of_row rF;have hb3:=hq.size;replace hq:=Below.after hq hb_;replace rF:=keep hb_ rF;clear hb_;obtain⟨uo,uc,hu⟩:=slen_own hO;subst hu
    generalize hR:rv (d.drop q) ty=R at *
    replace hR:=hide hR
    replace hS:w4.cell? ⟨wk,0,none⟩=some (.slice ao d.length cap)∧w4.cell? ⟨g,1,none⟩=some (.int .i64 ty):=⟨by rw[cell_of_row _ wk 0 _ _ _ (keep hq hrow)];rfl,by rw[cell_of_row _ g 1 _ _ _ rF];rfl⟩
    refine hK _ _ hS ?_;simp only[Act.put,List.getElem_toArray,List.getElem_cons_succ,List.getElem_cons_zero,List.setIfInBounds_toArray,List.set_cons_succ,List.set_cons_zero];clear hK
    refine wpAnyH_take (i:=8) (v:=?v8) rfl (by kernel_rfl) (by kernel_rfl) (by kernel_rfl) (fun _ _ _ h=>h) (Or.inl ⟨by rfl,?y8⟩) hS ?r8
    case y8=>
     intro w_ hS_;go_simp
     try with_reducible rfl
    simp only[Act.put,List.getElem_toArray,List.getElem_cons_succ,List.getElem_cons_zero,List.setIfInBounds_toArray,List.set_cons_succ,List.set_cons_zero]
    refine wpAnyH_take (i:=9) (v:=?v9) rfl (by kernel_rfl) (by kernel_rfl) (by kernel_rfl) (fun _ _ _ h=>h) (Or.inl ⟨by rfl,?y9⟩) hS ?r9
    case y9=>
     intro w_ hS_;go_simp
     try with_reducible rfl
    simp only[Act.put,List.getElem_toArray,List.getElem_cons_succ,List.getElem_cons_zero,List.setIfInBounds_toArray,List.set_cons_succ,List.set_cons_zero]
    refine wpAnyH_take (i:=10) (v:=?v10) rfl (by kernel_rfl) (by kernel_rfl) (by kernel_rfl) (fun _ _ _ h=>h) (Or.inl ⟨by rfl,?y10⟩) hS ?r10
    case y10=>
     intro w_ hS_;go_simp
     try with_reducible rfl
    simp only[Act.put,List.getElem_toArray,List.getElem_cons_succ,List.getElem_cons_zero,List.setIfInBounds_toArray,List.set_cons_succ,List.set_cons_zero]
    refine wpAnyH_take (i:=11) (v:=?v11) rfl (by kernel_rfl) (by kernel_rfl) (by kernel_rfl) (fun _ _ _ h=>h) (Or.inl ⟨by rfl,?y11⟩) hS ?r11
    case y11=>
     intro w_ hS_;go_simp
     try with_reducible rfl
    simp only[Act.put,List.getElem_toArray,List.getElem_cons_succ,List.getElem_cons_zero,List.setIfInBounds_toArray,List.set_cons_succ,List.set_cons_zero]
    refine wpAnyH_take (i:=12) (v:=?v12) rfl (by kernel_rfl) (by kernel_rfl) (by kernel_rfl) (fun _ _ _ h=>h) (Or.inl ⟨by rfl,?y12⟩) hS ?r12
    case y12=>
     intro w_ hS_;go_simp
     try with_reducible rfl
    simp only[Act.put,List.getElem_toArray,List.getElem_cons_succ,List.getElem_cons_zero,List.setIfInBounds_toArray,List.set_cons_succ,List.set_cons_zero]
    refine wpAnyH_take (i:=13) (v:=?v13) rfl (by kernel_rfl) (by kernel_rfl) (by kernel_rfl) (fun _ _ _ h=>h) (Or.inl ⟨by rfl,?y13⟩) hS ?r13
    case y13=>
     intro w_ hS_;go_simp
     try with_reducible rfl
    simp only[Act.put,List.getElem_toArray,List.getElem_cons_succ,List.getElem_cons_zero,List.setIfInBounds_toArray,List.set_cons_succ,List.set_cons_zero]
    refine wpAnyH_one (k:=14) (fuel:=4) (by kernel_rfl) rfl (by kernel_rfl) (fun K_ hK=>?_)
    have c_:w4.cell? ⟨g,2,none⟩=some (.int .u64 0):=by rw[cell_of_row _ g 2 _ _ _ rF];rfl
    have f_:w4.frozen? ⟨g,2,none⟩=false:=by simp[World.frozen?,rF]
    refine wp_skip_op (w4.setCell ⟨g,2,none⟩ (.int .u64 (vnum R:Int))) (by go_simp) ?_
    clear c_ f_;replace rF:=row_set rF 2 (.int .u64 (vnum R:Int));replace hq:=hq.setCell (p:=⟨g,2,none⟩) hgl (.int .u64 (vnum R:Int));replace hO:=own_other (j:=2) (u:=.int .u64 (vnum R:Int)) hO hg3
    replace hS:(w4.setCell ⟨g,2,none⟩ (.int .u64 (vnum R:Int))).cell? ⟨wk,0,none⟩=some (.slice ao d.length cap)∧(w4.setCell ⟨g,2,none⟩ (.int .u64 (vnum R:Int))).cell? ⟨g,1,none⟩=some (.int .i64 ty):=⟨by rw[cell_of_row _ wk 0 _ _ _ (keep hq hrow)];rfl,by rw[cell_of_row _ g 1 _ _ _ rF];rfl⟩
    refine hK _ _ hS ?_;simp only[Act.put,List.getElem_toArray,List.getElem_cons_succ,List.getElem_cons_zero];clear hK
    generalize w4.setCell ⟨g,2,none⟩ (.int .u64 (vnum R:Int))=w5 at *
    refine wpAnyH_take (i:=15) (v:=?v14) rfl (by kernel_rfl) (by kernel_rfl) (by kernel_rfl) (fun _ _ _ h=>h) (Or.inl ⟨by rfl,?y14⟩) hS ?r14
    case y14=>
     intro w_ hS_;go_simp
     try with_reducible rfl
    simp only[Act.put,List.getElem_toArray,List.getElem_cons_succ,List.getElem_cons_zero,List.setIfInBounds_toArray,List.set_cons_succ,List.set_cons_zero]
    refine wpAnyH_one (k:=16) (fuel:=2) (by kernel_rfl) rfl (by kernel_rfl) (fun K_ hK=>?_)
    have c_:w5.cell? ⟨g,3,none⟩=some (.slice none 0 0):=by rw[cell_of_row _ g 3 _ _ _ rF];rfl
    have f_:w5.frozen? ⟨g,3,none⟩=false:=by simp[World.frozen?,rF]
    refine wp_skip_op (w5.setCell ⟨g,3,none⟩ (.slice uo (vdat R).length uc)) (by go_simp) ?_
    clear c_ f_;replace rF:=row_set rF 3 (.slice uo (vdat R).length uc);replace hq:=hq.setCell (p:=⟨g,3,none⟩) hgl (.slice uo (vdat R).length uc);replace hO:=own_other (j:=3) (u:=.slice uo (vdat R).length uc) hO hg3
    replace hS:(w5.setCell ⟨g,3,none⟩ (.slice uo (vdat R).length uc)).cell? ⟨wk,0,none⟩=some (.slice ao d.length cap)∧(w5.setCell ⟨g,3,none⟩ (.slice uo (vdat R).length uc)).cell? ⟨g,1,none⟩=some (.int .i64 ty):=⟨by rw[cell_of_row _ wk 0 _ _ _ (keep hq hrow)];rfl,by rw[cell_of_row _ g 1 _ _ _ rF];rfl⟩
    refine hK _ _ hS ?_;simp only[Act.put,List.getElem_toArray,List.getElem_cons_succ,List.getElem_cons_zero];clear hK
    generalize w5.setCell ⟨g,3,none⟩ (.slice uo (vdat R).length uc)=w6 at *
    refine wpAnyH_take (i:=17) (v:=?v15) rfl (by kernel_rfl) (by kernel_rfl) (by kernel_rfl) (fun _ _ _ h=>h) (Or.inl ⟨by rfl,?y15⟩) hS ?r15
    case y15=>
     intro w_ hS_;go_simp
     try with_reducible rfl
    simp only[Act.put,List.getElem_toArray,List.getElem_cons_succ,List.getElem_cons_zero,List.setIfInBounds_toArray,List.set_cons_succ,List.set_cons_zero]
    refine wpAnyH_take (i:=18) (v:=?v16) rfl (by kernel_rfl) (by kernel_rfl) (by kernel_rfl) (fun _ _ _ h=>h) (Or.inl ⟨by rfl,?y16⟩) hS ?r16
    case y16=>
     intro w_ hS_;go_simp
     try with_reducible rfl
    simp only[Act.put,List.getElem_toArray,List.getElem_cons_succ,List.getElem_cons_zero,List.setIfInBounds_toArray,List.set_cons_succ,List.set_cons_zero]
    refine wpAnyH_done (by kernel_rfl) ?_ _
    refine NoPanic.normal ?_
    cases hRc:R with
    |er e=>
     subst hRc
     have he:(e==0)=false:=by simpa using rv_er hR.out
     have hfin:Hid (whl d d.length 0 0 0=(pre,some (q,e))):=hide (by rw[hwh2.out,whl_value hlt hk hr2.out (by rw[←hqe.out];exact hR.out),←hqe.out];simp)
     have hJ2:=hJb _ _ _ hJ hq;have hrow2:=keep hq hrow
     simp only[vnum,vdat,vend,verr] at *
     clear hR hr2 hwh2 hO hq rF hS
     have c1:w6.cell? ⟨wk,1,none⟩=some (.int .i64 0):=by rw[cell_of_row w6 wk 1 _ _ _ hrow2];rfl
     have c2:w6.cell? ⟨wk,2,none⟩=some (.int .i64 0):=by rw[cell_of_row w6 wk 2 _ _ _ hrow2];rfl
     have f1:w6.frozen? ⟨wk,1,none⟩=false:=by simp[World.frozen?,hrow2]
     have f2:w6.frozen? ⟨wk,2,none⟩=false:=by simp[World.frozen?,hrow2]
     have c3:(w6.setCell ⟨wk,1,none⟩ (.int .i64 (q:Int))).cell? ⟨wk,2,none⟩=some (.int .i64 0):=by rw[World.cell?_setCell_other _ _ _ _ (by simp)];exact c2
     have f3:(w6.setCell ⟨wk,1,none⟩ (.int .i64 (q:Int))).frozen? ⟨wk,2,none⟩=false:=by rw[World.frozen?_setCell];exact f2
     go_wp2_with (fail)
     refine bodyPost_ret (results_none rfl _ _ _) rfl ?_;rw[hfin.out];exact⟨⟨_,rfl⟩,.inr (.inl ⟨q,e,w6,rfl,hJ2,rfl⟩)⟩
    |ok num dat m=>
     subst hRc;have hv:=rv_ok hR.out;rw[List.length_drop] at hv
     obtain⟨k2,hk2,hst⟩:=whl_step hlt hk hr2.out (by rw[←hqe.out];exact hR.out)
     rw[←hqe.out] at hst hk2
     have hst2:Hid (whl d d.length 0 0 0=((pre++[(p,(⟨no,ty,num,dat⟩:Fd))])++(whl d k2 (q+m) no (pre++[(p,(⟨no,ty,num,dat⟩:Fd))]).length).1,(whl d k2 (q+m) no (pre++[(p,(⟨no,ty,num,dat⟩:Fd))]).length).2)):=hide (by rw[hwh2.out,hst,List.length_append,List.length_singleton,List.append_assoc];rfl)
     simp only[vnum,vdat,vend,verr] at hO rF⊢
     replace rF:w6.heap[g]? =some (.cells #[.int .i64 no,.int .i64 ty,.int .u64 (num:Int),.slice uo dat.length uc] 118 (0,0)):=rF
     have hFk:Fok ⟨no,ty,num,dat⟩:=⟨hv.2.1,by have:=hv.2.2;simp only;omega,by simp only;omega,by simp only;omega⟩
     obtain⟨fn,tmps,assign,body,hy,hRd⟩:=hY pre (p,⟨no,ty,num,dat⟩) _ wr w6 hJ hq (own_down hO hb3) hlt hFk (by rw[←hple.out];exact hpl2)
     dsimp only at hy
     have hqm:q+m≤d.length:=by omega
     have hpm:p<q+m:=by rw[hqe.out];omega
     have hnl:pl+1=(pre++[(p,(⟨no,ty,num,dat⟩:Fd))]).length:=by rw[List.length_append,List.length_singleton,hple.out]
     have hlg:=lt_of_row rF;clear hst hR hr2 hwh2 hO hS hFk hv
     iterate 20 go_step
     refine(wpIn_wide (n:=3)).1 ?_
     gi_wp2_with (first|(refine wpListIn_load_want rfl 118 _ rfl g rfl 118 _ (0,0) _ rF Tryz.underlying118 rfl infoF ?_)|fail)
     refine hRd.mono ?_;clear hRd hy
     rintro e_ w7 (⟨rfl,hJ7,hk7⟩|⟨rfl,hJx7⟩)
     ·have rF7:=(hk7 g hgl hlg).trans rF
      have c7:w7.cell? ⟨g,0,none⟩=some (.int .i64 no):=by rw[cell_of_row _ g 0 _ _ _ rF7];rfl
      clear hk7 rF hq cb hrow hJ hB
      gi_wp2_with (fail)
      go_wp2_with (fail)
      have hbd:Below w7.heap.size w7 w7.drew:=below_drN (Below.refl _ _) 1;replace hJ7:=hJb _ _ _ hJ7 hbd
      have c8:w7.drew.cell? ⟨g,0,none⟩=some (.int .i64 no):=by rw[cell_of_row _ g 0 _ _ _ (keep hbd rF7)];rfl
      clear hbd c7 rF7;refine wp_region_noPanic ?_
      refine wp_region_held (S:=fun W=>W.cell? ⟨g,0,none⟩=some (.int .i64 no)) (by kernel_rfl) ?_
      change wpAnyH _ _ _ _ _ _ _ _ (World.drew _)
      generalize w7.drew=w8 at *
      refine wpAnyH_take (i:=0) (v:=?v17) rfl (by kernel_rfl) (by kernel_rfl) (by kernel_rfl) (fun _ _ _ h=>h) (Or.inl ⟨by rfl,?y17⟩) c8 ?r17
      case y17=>
       intro w_ hS_;go_simp
       try with_reducible rfl
      simp only[Act.put,List.getElem_toArray,List.getElem_cons_zero,List.setIfInBounds_toArray,List.set_cons_succ,List.set_cons_zero]
      refine wpAnyH_take (i:=1) (v:=?v18) rfl (by kernel_rfl) (by kernel_rfl) (by kernel_rfl) (fun _ _ _ h=>h) (Or.inl ⟨by rfl,?y18⟩) c8 ?r18
      case y18=>
       intro w_ hS_;go_simp
       try with_reducible rfl
      simp only[Act.put,List.getElem_toArray,List.getElem_cons_succ,List.getElem_cons_zero,List.setIfInBounds_toArray,List.set_cons_succ,List.set_cons_zero]
      refine wpAnyH_take (i:=2) (v:=.int .i64 no) rfl (by kernel_rfl) (by kernel_rfl) (by kernel_rfl) (fun _ _ _ h=>h) (Or.inl ⟨by rfl,?y19⟩) c8 ?r19
      case y19=>
       intro w_ hS_;have c_:=hS_;go_simp
       try with_reducible rfl
      simp only[Act.put,List.getElem_toArray,List.getElem_cons_succ,List.getElem_cons_zero,List.setIfInBounds_toArray,List.set_cons_succ,List.set_cons_zero]
      refine wpAnyH_take (i:=3) (v:=?v20) rfl (by kernel_rfl) (by kernel_rfl) (by kernel_rfl) (fun _ _ _ h=>h) (Or.inl ⟨by rfl,?y20⟩) c8 ?r20
      case y20=>
       intro w_ hS_;go_simp
       try with_reducible rfl
      simp only[Act.put,List.getElem_toArray,List.getElem_cons_succ,List.getElem_cons_zero,List.setIfInBounds_toArray,List.set_cons_succ,List.set_cons_zero]
      refine wpAnyH_take (i:=4) (v:=?v21) rfl (by kernel_rfl) (by kernel_rfl) (by kernel_rfl) (fun _ _ _ h=>h) (Or.inl ⟨by rfl,?y21⟩) c8 ?r21
      case y21=>
       intro w_ hS_;go_simp
       try with_reducible rfl
      simp only[Act.put,List.getElem_toArray,List.getElem_cons_succ,List.getElem_cons_zero,List.setIfInBounds_toArray,List.set_cons_succ,List.set_cons_zero]
      refine wpAnyH_done (by kernel_rfl) ?_ _
      refine NoPanic.normal ?_
      have hpl3:0≤(pl:Int)+1∧(pl:Int)+1<100:=by omega
      go_wp2_with (fail)
      refine⟨⟨q+m,k2,no,pre++[(p,⟨no,ty,num,dat⟩)],hqm,by omega,hk2,hno2,hno1,by rw[Int.natCast_add],rfl,by rw[←hnl];go_num,hst2.out,hJ7⟩,?_⟩
      simp[intOf];omega
     ·gi_wp2_with (fail)
      go_wp2_with (fail)
      refine bodyPost_ret (results_none rfl _ _ _) rfl ?_;refine⟨⟨_,rfl⟩,.inr (.inr ⟨_,?_,hJx7⟩)⟩;rw[hst2.out];exact⟨_,rfl⟩
  ·have hfin:Hid (whl d d.length 0 0 0=(pre,none)):=hide (by rw[hwh,whl_end hlt];simp)
   have hd:decide ((p:Int)<(d.length:Int))=false:=by simp;omega
   clear hwh
   generalize pre.length=pl at *
   go_wp2_with (fail)
   go_end0;rw[hfin.out];exact⟨⟨_,rfl⟩,.inl ⟨rfl,hJ⟩⟩
end Go.Proofs.YtmmlkfkpblokiaaGreatDoor
