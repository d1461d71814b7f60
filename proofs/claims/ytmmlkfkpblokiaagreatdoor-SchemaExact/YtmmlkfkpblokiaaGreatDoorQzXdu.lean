import Derived.Test.YtmmlkfkpblokiaaGreatDoorQzWv
set_option maxRecDepth 100000
set_option maxHeartbeats 16000000
namespace Go.Proofs.YtmmlkfkpblokiaaGreatDoor
open Go Go.RowKit Go.Sort
attribute [local go_sem] setCell_drewN alloc_drewN
inductive NX where
 |er (p:Nat) (e:Int)
 |ok (f:Fd) (q:Nat)
def nx (d:List B) (p:Nat) (last:Int) (c:Nat):NX:=match rh (d.drop p) last c with
 | .er e=>.er p e
 | .ok no ty n=>match rv (d.drop (p+n)) ty with
  | .er e=>.er (p+n) e
  | .ok num dat m=>.ok ⟨no,ty,num,dat⟩ (p+n+m)
def nxv (u:Value):NX→Value
 | .er p e=>.tuple #[fagg f0 nS,.int .i64 (p:Int),.int .i64 e]
 | .ok f q=>.tuple #[fagg f u,.int .i64 (q:Int),.int .i64 0]
def nxd:NX→List B
 | .er _ _=>[]
 | .ok f _=>f.dat
theorem heap_setRow_other (W:World) (g g':Nat) (cs:Array Value) (h:g'≠g):(W.setRow g cs).heap[g']? =W.heap[g']? :=by
 show(W.heap.modify g _)[g']? =_
 rw[Array.getElem?_modify,if_neg (by omega)]
theorem fxv_cons (x:B) (l:List B):fxv (x::l)=fxv l*256+x.toNat:=by
 rw[fxv];omega
theorem wp_value_op {P:Program} {o:Oper} {a:Act} {w:World} {K:Act→World→Prop} {Q:Exit→Act→World→Prop} (v:Value) (hx:(execOp a.eval o).run P w=.ok (.value v) w) (h:K (a.put o.dst v) w):o.wp P a w K Q:=by
 unfold Oper.wp;rw[hx,Oper.upon_value];exact h
theorem r_next (d:List B) (p:Nat) (last:Int) (c:Nat) (hp:p≤d.length) (hl0:0≤last) (hc:c≤64) (w:World) (v:Value) (hB:BysB w v d) (hcap:∀a l c,v=.slice a l c→l≤c):Calls Tryz.prog 111 #[v,.int .i64 (p:Int),.int .i64 last,.int .i64 (c:Int)] w fun e w'=>∃u,e=.returned (nxv u (nx d p last c))∧Own w' w.heap.size u (nxd (nx d p last c))∧Below w.heap.size w w':=by
 obtain⟨ao,cap,hve⟩:=hB.form;have hlen:=hB.2.1;have r0:=hp1_0 w (.cells #[.int .i64 0,.int .i64 0,.int .u64 0,nS] 118);have hw:Below w.heap.size w (w.alloc (.cells #[.int .i64 0,.int .i64 0,.int .u64 0,nS] 118)):=(Below.refl _ _).alloc (Nat.le_refl _) _;have cN:=r_number d p hp (w.alloc (.cells #[.int .i64 0,.int .i64 0,.int .u64 0,nS] 118)) v (hB.keep hw);subst hve
 have hone:(#[.int .i64 0,.int .i64 0,.int .u64 0,nS]:Array Value).all (·.oneCell')=true:=by simp[Value.oneCell']
 cases hr:rd 0 (d.drop p) with
 |er e=>
  have hh:rh (d.drop p) last c=.er e:=by unfold rh;rw[hr]
  have he:(e==0)=false:=by rcases rd_er _ _ _ hr with h|h<;>subst h<;>rfl
  have hfin:Hid (nx d p last c=.er p e):=hide (by unfold nx;rw[hh])
  rw[hr] at cN;unfold nres at cN;clear hh hr
  go_enter Tryz.func111,Tryz.ntmps111
  go_wp2_with (first|(refine wpList_alloc rfl 118 rfl #[.int .i64 0,.int .i64 0,.int .u64 0,nS] zFd ?_)|fail)
  generalize w.alloc (.cells #[.int .i64 0,.int .i64 0,.int .u64 0,nS] 118)=w0 at *
  refine cN.mono ?_;rintro e_ w1 ⟨rfl,hb⟩;have r1:=keep hb r0;replace hw:=hw.trans (hb.mono hw.size);clear cN
  go_wp2_with (first|(refine wpList_store_row rfl 118 _ _ rfl (w.heap.size) #[.int .i64 0,.int .i64 0,.int .u64 0,nS] rfl rfl 118 _ r1 infoF rfl hone ?_)|fail)
  replace r1:=setRow_heap _ w.heap.size _ #[.int .i64 0,.int .i64 0,.int .u64 0,nS] _ _ r1;replace hw:=below_setRow hw (Nat.le_refl _) #[.int .i64 0,.int .i64 0,.int .u64 0,nS];refine bodyPost_ret (results_row_tmp2 rfl _ _ (w.heap.size) _ _ _ _ rfl r1 Tryz.underlying118 rfl infoF) rfl ?_;rw[hfin.out];exact⟨_,rfl,own_none _ _,hw⟩
 |ok x n=>
  rw[hr] at cN;unfold nres at cN;have hx:=(rd0_ok hr).2.2;have hn:=rd0_len hr;rw[List.length_drop] at hn
  have hh:rh (d.drop p) last c=if c=64 then .er 2 else if 536870911<x/8 then .er 71 else
   if hck ⟨((x:Int)/8),((x:Int)%8),0,[]⟩ last≠0 then .er (hck ⟨((x:Int)/8),((x:Int)%8),0,[]⟩ last)
   else .ok ((x:Int)/8) ((x:Int)%8) n:=by unfold rh;rw[hr]
  clear hr
  go_enter Tryz.func111,Tryz.ntmps111
  go_wp2_with (first|(refine wpList_alloc rfl 118 rfl #[.int .i64 0,.int .i64 0,.int .u64 0,nS] zFd ?_)|fail)
  generalize w.alloc (.cells #[.int .i64 0,.int .i64 0,.int .u64 0,nS] 118)=w0 at *
  refine cN.mono ?_;rintro e_ w1 ⟨rfl,hb⟩;have r1:=keep hb r0;have l1:=lt_of_row r1;replace hw:=hw.trans (hb.mono hw.size);clear cN hb r0
  by_cases h1:c=64
  ·rw[if_pos h1] at hh
   have d1:decide ((c:Int)≥64)=true:=by simp;omega
   have hfin:Hid (nx d p last c=.er p 2):=hide (by unfold nx;rw[hh])
   clear hh;replace h1:=hide h1
   go_wp2_with (first|(refine wpList_store_row rfl 118 _ _ rfl (w.heap.size) #[.int .i64 0,.int .i64 0,.int .u64 0,nS] rfl rfl 118 _ r1 infoF rfl hone ?_)|fail)
   replace r1:=setRow_heap _ w.heap.size _ #[.int .i64 0,.int .i64 0,.int .u64 0,nS] _ _ r1;replace hw:=below_setRow hw (Nat.le_refl _) #[.int .i64 0,.int .i64 0,.int .u64 0,nS];refine bodyPost_ret (results_row_tmp2 rfl _ _ (w.heap.size) _ _ _ _ rfl r1 Tryz.underlying118 rfl infoF) rfl ?_;rw[hfin.out];exact⟨_,rfl,own_none _ _,hw⟩
  rw[if_neg h1] at hh
  have d1:decide ((c:Int)≥64)=false:=by simp;omega
  by_cases h2:536870911<x/8
  ·rw[if_pos h2] at hh
   have d2:decide ((x:Int)/8<1)=false:=by simp;omega
   have d3:decide ((x:Int)/8>536870911)=true:=by simp;omega
   have hfin:Hid (nx d p last c=.er p 71):=hide (by unfold nx;rw[hh])
   clear hh
   go_wp2_with (first|(refine wpList_store_row rfl 118 _ _ rfl (w.heap.size) #[.int .i64 0,.int .i64 0,.int .u64 0,nS] rfl rfl 118 _ r1 infoF rfl hone ?_)|fail)
   replace r1:=setRow_heap _ w.heap.size _ #[.int .i64 0,.int .i64 0,.int .u64 0,nS] _ _ r1;replace hw:=below_setRow hw (Nat.le_refl _) #[.int .i64 0,.int .i64 0,.int .u64 0,nS];refine bodyPost_ret (results_row_tmp2 rfl _ _ (w.heap.size) _ _ _ _ rfl r1 Tryz.underlying118 rfl infoF) rfl ?_;rw[hfin.out];exact⟨_,rfl,own_none _ _,hw⟩
  rw[if_neg h2] at hh
  have hb1:x/8≤536870911:=by omega
  have hb2:x%8<8:=by omega
  have d3:decide ((x:Int)/8>536870911)=false:=by simp;omega
  by_cases h3:(x:Int)/8≤last
  ·have hk:hck ⟨((x:Int)/8),((x:Int)%8),0,[]⟩ last=71:=if_pos (.inl h3)
   rw[hk,if_pos (by decide)] at hh
   have hfin:Hid (nx d p last c=.er p 71):=hide (by unfold nx;rw[hh])
   have d4:decide ((x:Int)/8≤last)=true:=by simpa using h3
   clear hh hk h1 h2
   by_cases h4:(x:Int)/8<1
   ·have d2:decide ((x:Int)/8<1)=true:=by simpa using h4
    clear h3 h4
    go_wp2_with (first|(refine wpList_store_row rfl 118 _ _ rfl (w.heap.size) #[.int .i64 0,.int .i64 0,.int .u64 0,nS] rfl rfl 118 _ r1 infoF rfl hone ?_)|fail)
    replace r1:=setRow_heap _ w.heap.size _ #[.int .i64 0,.int .i64 0,.int .u64 0,nS] _ _ r1;replace hw:=below_setRow hw (Nat.le_refl _) #[.int .i64 0,.int .i64 0,.int .u64 0,nS];refine bodyPost_ret (results_row_tmp2 rfl _ _ (w.heap.size) _ _ _ _ rfl r1 Tryz.underlying118 rfl infoF) rfl ?_;rw[hfin.out];exact⟨_,rfl,own_none _ _,hw⟩
   ·have d2:decide ((x:Int)/8<1)=false:=by simpa using h4
    clear h3 h4
    go_wp2_with (first|(refine wpList_store_row rfl 118 _ _ rfl (w.heap.size) #[.int .i64 0,.int .i64 0,.int .u64 0,nS] rfl rfl 118 _ r1 infoF rfl hone ?_)|fail)
    replace r1:=setRow_heap _ w.heap.size _ #[.int .i64 0,.int .i64 0,.int .u64 0,nS] _ _ r1;replace hw:=below_setRow hw (Nat.le_refl _) #[.int .i64 0,.int .i64 0,.int .u64 0,nS];refine bodyPost_ret (results_row_tmp2 rfl _ _ (w.heap.size) _ _ _ _ rfl r1 Tryz.underlying118 rfl infoF) rfl ?_;rw[hfin.out];exact⟨_,rfl,own_none _ _,hw⟩
  have d4:decide ((x:Int)/8≤last)=false:=by simpa using h3
  have d2:decide ((x:Int)/8<1)=false:=by simp;omega
  have cK:=r_known ((x:Int)%8) w1;clear h1 h2
  by_cases h5:known ((x:Int)%8)
  rotate_left
  ·have hk:hck ⟨((x:Int)/8),((x:Int)%8),0,[]⟩ last=72:=by
    unfold hck
    rw[if_neg (by simp;omega),if_neg h5]
   rw[hk,if_pos (by decide)] at hh
   have hfin:Hid (nx d p last c=.er p 72):=hide (by unfold nx;rw[hh])
   rw[decide_eq_false h5] at cK;clear hh hk h3 h5
   go_wp2_with (fail)
   refine cK.mono ?_;rintro e_ w2 ⟨rfl,hb⟩;replace r1:=keep hb r1;replace hw:=hw.trans (hb.mono hw.size);clear cK hb
   go_wp2_with (first|(refine wpList_store_row rfl 118 _ _ rfl (w.heap.size) #[.int .i64 0,.int .i64 0,.int .u64 0,nS] rfl rfl 118 _ r1 infoF rfl hone ?_)|fail)
   replace r1:=setRow_heap _ w.heap.size _ #[.int .i64 0,.int .i64 0,.int .u64 0,nS] _ _ r1;replace hw:=below_setRow hw (Nat.le_refl _) #[.int .i64 0,.int .i64 0,.int .u64 0,nS];refine bodyPost_ret (results_row_tmp2 rfl _ _ (w.heap.size) _ _ _ _ rfl r1 Tryz.underlying118 rfl infoF) rfl ?_;rw[hfin.out];exact⟨_,rfl,own_none _ _,hw⟩
  have hk:hck ⟨((x:Int)/8),((x:Int)%8),0,[]⟩ last=0:=by
   unfold hck
   rw[if_neg (by simp;omega),if_pos h5]
  rw[hk,if_neg (by decide)] at hh
  rw[decide_eq_true h5] at cK
  have hnx:nx d p last c=match rv (d.drop (p+n)) ((x:Int)%8) with
   | .er e=>.er (p+n) e
   | .ok num dat m=>.ok ⟨((x:Int)/8),((x:Int)%8),num,dat⟩ (p+n+m):=by unfold nx;rw[hh]
  clear hh hk h3
  have hq:p+n≤d.length:=by omega
  go_wp2_with (fail)
  refine cK.mono ?_;rintro e_ w2 ⟨rfl,hb⟩;replace r1:=keep hb r1;replace hw:=hw.trans (hb.mono hw.size);have l1:=lt_of_row r1;clear cK hb d1 d2 d3 d4
  have hno:0≤(x:Int)/8∧(x:Int)/8≤536870911:=by omega
  generalize (x:Int)/8=no at *
  generalize (x:Int)%8=ty at *
  clear hn hb1 hb2 hx
  rw[show(p:Int)+(n:Int)=((p+n:Nat):Int) from(Int.natCast_add p n).symm]
  generalize p+n=q at *
  clear hp;have q0:=hp1_0 w2 (.cells #[.int .i64 0,.int .i64 0,.int .u64 0,nS] 118)
  have hone2:(#[.int .i64 no,.int .i64 ty,.int .u64 0,nS]:Array Value).all (·.oneCell')=true:=by simp[Value.oneCell']
  have q1:=setRow_heap _ w2.heap.size _ #[.int .i64 no,.int .i64 ty,.int .u64 0,nS] _ _ q0;have hba:Below w2.heap.size w2 (w2.alloc (.cells #[.int .i64 0,.int .i64 0,.int .u64 0,nS] 118)):=(Below.refl _ _).alloc (Nat.le_refl _) _;replace hba:=below_setRow hba (Nat.le_refl _) #[.int .i64 no,.int .i64 ty,.int .u64 0,nS];have hw3:=hw.trans (hba.mono hw.size);have r3:=keep hba r1
  rcases h5 with rfl|rfl|rfl|rfl
  ·go_wp2_with (first|(refine wpList_alloc rfl 118 rfl #[.int .i64 0,.int .i64 0,.int .u64 0,nS] zFd ?_)|(refine wpList_store_row rfl 118 _ _ rfl (w2.heap.size) #[.int .i64 no,.int .i64 0,.int .u64 0,nS] rfl rfl 118 _ q0 infoF rfl hone2 ?_)|fail)
   have hgl:w.heap.size≤w2.heap.size:=hw.size
   replace hw:=hw3;replace r1:=r3
   generalize (w2.alloc (.cells #[.int .i64 0,.int .i64 0,.int .u64 0,nS] 118)).setRow w2.heap.size #[.int .i64 no,.int .i64 0,.int .u64 0,nS]=w3 at *
   clear q0 hone2 hba hw3 r3
   cases hr:rd 0 (d.drop q) with
   |er e=>
    have hv:rv (d.drop q) 0=.er e:=by simp[rv,hr]
    rw[hv] at hnx;have hfin:Hid (nx d p last c=.er q e):=hide hnx
    have he:(e==0)=false:=by rcases rd_er _ _ _ hr with h|h<;>subst h<;>rfl
    have cM:=r_number d q hq w3 _ (hB.keep hw);rw[hr] at cM;unfold nres at cM;clear hv hnx hr;refine cM.mono ?_;rintro e_ w4 ⟨rfl,hb⟩;replace r1:=keep hb r1;replace hw:=hw.trans (hb.mono hw.size);clear cM hb
    go_wp2_with (first|(refine wpList_store_row rfl 118 _ _ rfl (w.heap.size) #[.int .i64 0,.int .i64 0,.int .u64 0,nS] rfl rfl 118 _ r1 infoF rfl hone ?_)|fail)
    replace r1:=setRow_heap _ w.heap.size _ #[.int .i64 0,.int .i64 0,.int .u64 0,nS] _ _ r1;replace hw:=below_setRow hw (Nat.le_refl _) #[.int .i64 0,.int .i64 0,.int .u64 0,nS];refine bodyPost_ret (results_row_tmp2 rfl _ _ (w.heap.size) _ _ _ _ rfl r1 Tryz.underlying118 rfl infoF) rfl ?_;rw[hfin.out];exact⟨_,rfl,own_none _ _,hw⟩
   |ok y m=>
    have hv:rv (d.drop q) 0=.ok y [] m:=by simp[rv,hr]
    rw[hv] at hnx;have hfin:Hid (nx d p last c=.ok ⟨no,0,y,[]⟩ (q+m)):=hide hnx;have cM:=r_number d q hq w3 _ (hB.keep hw);rw[hr] at cM;unfold nres at cM;clear hv hnx hr;refine cM.mono ?_;rintro e_ w4 ⟨rfl,hb⟩;replace r1:=keep hb r1;replace q1:=keep hb q1;replace hw:=hw.trans (hb.mono hw.size);clear cM hb
    generalize hge:w2.heap.size=g at *
    have c2:w4.cell? ⟨g,2,none⟩=some (.int .u64 0):=by rw[cell_of_row _ g 2 _ _ _ q1];rfl
    have f2:w4.frozen? ⟨g,2,none⟩=false:=by simp[World.frozen?,q1]
    have r5:=heap_other (g:=g) (j:=2) (v:=.int .u64 (y:Int)) r1 (by omega)
    have q5:(w4.setCell ⟨g,2,none⟩ (.int .u64 (y:Int))).heap[g]? =some (.cells #[.int .i64 no,.int .i64 0,.int .u64 (y:Int),nS] 118 (0,0)):=row_set q1 2 _;have hw5:=hw.setCell (p:=⟨g,2,none⟩) hgl (.int .u64 (y:Int))
    have hone3:(#[.int .i64 no,.int .i64 0,.int .u64 (y:Int),nS]:Array Value).all (·.oneCell')=true:=by simp[Value.oneCell']
    have hfg:Hid (fagg ⟨no,0,y,[]⟩ nS=.agg #[.int .i64 no,.int .i64 0,.int .u64 (y:Int),nS]):=hide rfl
    go_wp2_with (first|(refine wpList_load_want rfl 118 _ rfl g rfl 118 #[.int .i64 no,.int .i64 0,.int .u64 (y:Int),nS] (0,0) _ q5 Tryz.underlying118 rfl infoF ?_)|(refine wpList_store_row rfl 118 _ _ rfl (w.heap.size) #[.int .i64 no,.int .i64 0,.int .u64 (y:Int),nS] rfl rfl 118 _ r5 infoF rfl hone3 ?_)|fail)
    replace r5:=setRow_heap _ w.heap.size _ #[.int .i64 no,.int .i64 0,.int .u64 (y:Int),nS] _ _ r5;replace hw5:=below_setRow hw5 (Nat.le_refl _) #[.int .i64 no,.int .i64 0,.int .u64 (y:Int),nS];refine bodyPost_ret (results_row_tmp2 rfl _ _ (w.heap.size) _ _ _ _ rfl r5 Tryz.underlying118 rfl infoF) rfl ?_;rw[hfin.out];exact⟨nS,rfl,own_none _ _,hw5⟩
  ·have hld:(d.drop q).length=d.length-q:=List.length_drop
   by_cases h8:(d.drop q).length<8
   ·have hv:rv (d.drop q) 1=.er 73:=by unfold rv;rw[if_pos rfl,if_pos h8]
    rw[hv] at hnx
    have hfin:Hid (nx d p last c=.er q 73):=hide hnx
    have d5:decide ((d.length:Int)-(q:Int)<8)=true:=by simp;omega
    clear hv hnx h8 hld
    go_wp2_with (first|(refine wpList_alloc rfl 118 rfl #[.int .i64 0,.int .i64 0,.int .u64 0,nS] zFd ?_)|(refine wpList_store_row rfl 118 _ _ rfl (w2.heap.size) #[.int .i64 no,.int .i64 1,.int .u64 0,nS] rfl rfl 118 _ q0 infoF rfl hone2 ?_)|(refine wpList_store_row rfl 118 _ _ rfl (w.heap.size) #[.int .i64 0,.int .i64 0,.int .u64 0,nS] rfl rfl 118 _ r3 infoF rfl hone ?_)|fail)
    replace r3:=setRow_heap _ w.heap.size _ #[.int .i64 0,.int .i64 0,.int .u64 0,nS] _ _ r3;replace hw3:=below_setRow hw3 (Nat.le_refl _) #[.int .i64 0,.int .i64 0,.int .u64 0,nS];refine bodyPost_ret (results_row_tmp2 rfl _ _ (w.heap.size) _ _ _ _ rfl r3 Tryz.underlying118 rfl infoF) rfl ?_;rw[hfin.out];exact⟨_,rfl,own_none _ _,hw3⟩
   ·have hv:rv (d.drop q) 1=.ok (fxv ((d.drop q).take 8)) [] 8:=by unfold rv;rw[if_pos rfl,if_neg h8]
    rw[hv] at hnx
    have hfin:Hid (nx d p last c=.ok ⟨no,1,fxv ((d.drop q).take 8),[]⟩ (q+8)):=hide hnx
    have d5:decide ((d.length:Int)-(q:Int)<8)=false:=by simp;omega
    have hqk:q+8≤d.length:=by omega
    clear hv hnx h8 hld
    go_wp2_with (first|(refine wpList_alloc rfl 118 rfl #[.int .i64 0,.int .i64 0,.int .u64 0,nS] zFd ?_)|(refine wpList_store_row rfl 118 _ _ rfl (w2.heap.size) #[.int .i64 no,.int .i64 1,.int .u64 0,nS] rfl rfl 118 _ q0 infoF rfl hone2 ?_)|fail)
    have hgl:w.heap.size≤w2.heap.size:=hw.size;replace hw:=hw3;replace r1:=r3
    generalize (w2.alloc (.cells #[.int .i64 0,.int .i64 0,.int .u64 0,nS] 118)).setRow w2.heap.size #[.int .i64 no,.int .i64 1,.int .u64 0,nS]=w3 at *
    clear q0 hone2 hba hw3 r3
    generalize hge:w2.heap.size=g at *
    go_loopw [18] (fun i wr=>∃(j a:Nat),j≤8∧i=.int .i64 ((j:Int)-1)∧a=fxv (((d.drop q).take 8).drop j)∧wr.heap[g]? =some (.cells #[.int .i64 no,.int .i64 1,.int .u64 (a:Int),nS] 118 (0,0))∧wr.heap[w.heap.size]? =some (.cells #[.int .i64 0,.int .i64 0,.int .u64 0,nS] 118 (0,0))∧Below w.heap.size w wr) (fun i _=>(intOf i+1).toNat)
    case atStart=>exact⟨8,0,by omega,rfl,by rw[List.drop_eq_nil_of_le (by rw[List.length_take];omega)];rfl,q1,r1,hw⟩
    case round=>
     clear q1 r1 hw;obtain⟨j,a,hj,rfl,ha,q1,r1,hw⟩:=hrel
     cases j with
     |zero=>
      have hd:decide (((0:Nat):Int)-1≥0)=false:=rfl;rw[List.drop_zero] at ha;rw[←ha] at hfin;clear ha;have q5:=q1;have r5:=r1;have hw5:=hw
      have hone3:(#[.int .i64 no,.int .i64 1,.int .u64 (a:Int),nS]:Array Value).all (·.oneCell')=true:=by simp[Value.oneCell']
      go_wp2_with (first|(refine wpList_load_want rfl 118 _ rfl g rfl 118 #[.int .i64 no,.int .i64 1,.int .u64 (a:Int),nS] (0,0) _ q5 Tryz.underlying118 rfl infoF ?_)|(refine wpList_store_row rfl 118 _ _ rfl (w.heap.size) #[.int .i64 no,.int .i64 1,.int .u64 (a:Int),nS] rfl rfl 118 _ r5 infoF rfl hone3 ?_)|fail)
      replace r5:=setRow_heap _ w.heap.size _ #[.int .i64 no,.int .i64 1,.int .u64 (a:Int),nS] _ _ r5;replace hw5:=below_setRow hw5 (Nat.le_refl _) #[.int .i64 no,.int .i64 1,.int .u64 (a:Int),nS];refine bodyPost_ret (results_row_tmp2 rfl _ _ (w.heap.size) _ _ _ _ rfl r5 Tryz.underlying118 rfl infoF) rfl ?_;rw[hfin.out];exact⟨nS,rfl,own_none _ _,hw5⟩
     |succ j=>
      obtain⟨b,off,hao,hbl,hcl⟩:=hB.cellAt (j:=q+j) (by omega)
      have hji:(((j+1:Nat):Int)-1)=(j:Int):=by omega
      rw[hji];clear hji
      have hd:decide ((j:Int)≥0)=true:=by simp
      have ha7:a<72057594037927936:=by
       have:=fxv_lt (((d.drop q).take 8).drop (j+1));rw[←ha,List.length_drop,List.length_take,List.length_drop] at this
       exact Nat.lt_of_lt_of_le this (by have:(256:Nat)^(min 8 (d.length-q)-(j+1))≤256^7:=Nat.pow_le_pow_right (by decide) (by omega);simpa using this)
      have hnext:Hid (a*256+(gb d (q+j)).toNat=fxv (((d.drop q).take 8).drop j)):=hide (by
       rw[drop_at _ j (by rw[List.length_take,List.length_drop];omega),fxv_cons,ha,gb_take _ _ _ _ (by omega) hqk])
      have hxb:=bnd (gb d (q+j))
      have hq1:0≤(q:Int)+(j:Int)∧(q:Int)+(j:Int)<(d.length:Int):=by omega
      clear ha
      generalize gb d (q+j)=z at *
      subst hao
      go_wp2_with (fail)
      have hbd:Below wr.heap.size wr wr.drew:=below_drN (Below.refl _ _) 1;replace hw:=Below.after hw hbd;replace q1:=keep hbd q1;replace r1:=keep hbd r1
      have hS:wr.drew.cell? ⟨b,off+(q+j),none⟩=some (.int .u8 (bv z)):=by rw[hw.cell (p:=⟨b,off+(q+j),none⟩) hbl];exact hcl
      have hw1:IntKind.u64.wrap ((a:Int)*256)=(a:Int)*256:=by rw[IntKind.wrap_u64];omega
      have hw2:IntKind.u64.wrap ((a:Int)*256+bv z)=((a*256+z.toNat:Nat):Int):=by rw[IntKind.wrap_u64,bv8];omega
      have hwq:IntKind.i64.wrap ((q:Int)+(j:Int))=((q+j:Nat):Int):=by rw[IntKind.wrap_i64];omega
      clear hbd;refine wp_region_noPanic ?_
      refine wp_region_held (S:=fun W=>W.cell? ⟨b,off+(q+j),none⟩=some (.int .u8 (bv z))) (by kernel_rfl) ?_
      change wpAnyH _ _ _ _ _ _ _ _ (World.drew _)
      generalize wr.drew=wd at *
      refine wTy 0 ?v1 rfl ?y1 hS ?r1
      case y1=>
       intro w_ hS_;go_simp
       try with_reducible rfl
      simp only[Act.put,ZPa,ZPc,ZPd,ZPe,ZPf];refine wTy 3 ?v2 rfl ?y2 hS ?r2
      case y2=>
       intro w_ hS_;go_simp
       try with_reducible rfl
      simp only[Act.put,ZPa,ZPb,ZPc,ZPd,ZPe,ZPf];refine wTy 4 ?v3 rfl ?y3 hS ?r3
      case y3=>
       intro w_ hS_;go_simp
       try with_reducible rfl
      simp only[Act.put,ZPa,ZPb,ZPc,ZPd,ZPe,ZPf];refine wTy 5 ?v4 rfl ?y4 hS ?r4
      case y4=>
       intro w_ hS_;go_simp
       try with_reducible rfl
      simp only[Act.put,ZPa,ZPb,ZPc,ZPd,ZPe,ZPf]
      refine wpAnyH_take (i:=6) (v:=.int .i64 ((q+j:Nat):Int)) rfl (by kernel_rfl) (by kernel_rfl) (by kernel_rfl) (fun _ _ _ h=>h) (Or.inl ⟨by rfl,?y5⟩) hS ?r5
      case y5=>
       intro w_ hS_;clear hw q1 r1;go_simp
       first|done|rw[hwq]
      simp only[Act.put,ZPa,ZPb,ZPc,ZPd,ZPe,ZPf]
      refine wpAnyH_take (i:=7) (v:=.pointer (some ⟨b,off+(q+j),none⟩)) rfl (by kernel_rfl) (by kernel_rfl) (by kernel_rfl) (fun _ _ _ h=>h) (Or.inl ⟨by rfl,?y6⟩) hS ?r6
      case y6=>
       intro w_ hS_;clear hw q1 r1;go_simp
       first|done|(rw[if_pos (by omega)];rfl)
      simp only[Act.put,ZPa,ZPb,ZPc,ZPd,ZPe,ZPf];refine wTy 8 (.int .u8 (bv z)) rfl ?y7 hS ?r7
      case y7=>
       intro w_ hS_;have c_:=hS_;go_simp
       try with_reducible rfl
      simp only[Act.put,ZPa,ZPb,ZPc,ZPd,ZPe,ZPf];refine wTy 9 (.int .u64 (bv z)) rfl ?y8 hS ?r8
      case y8=>
       intro w_ hS_;clear hw q1 r1;go_simp
       first|done|(rw[IntKind.wrap_u64,Int.emod_eq_of_lt (by omega) (by omega)])
      simp only[Act.put,ZPa,ZPb,ZPc,ZPd,ZPe,ZPf]
      refine wpAnyH_one (k:=1) (fuel:=4) (by kernel_rfl) rfl (by kernel_rfl) (fun K_ hK=>?_)
      have c_:wd.cell? ⟨g,2,none⟩=some (.int .u64 (a:Int)):=by rw[cell_of_row _ g 2 _ _ _ q1];rfl
      refine wp_value_op (.int .u64 (a:Int)) (by go_simp) ?_
      clear c_;refine hK _ _ hS ?_;simp only[Act.put,ZPa,ZPb,ZPc,ZPd,ZPe,ZPf];clear hK
      refine wpAnyH_take (i:=2) (v:=.int .u64 ((a:Int)*256)) rfl (by kernel_rfl) (by kernel_rfl) (by kernel_rfl) (fun _ _ _ h=>h) (Or.inl ⟨by rfl,?y9⟩) hS ?r9
      case y9=>
       intro w_ hS_;clear hw q1 r1;go_simp
       first|done|rw[hw1]
      simp only[Act.put,ZPa,ZPb,ZPc,ZPd,ZPe,ZPf]
      refine wpAnyH_take (i:=10) (v:=.int .u64 ((a*256+z.toNat:Nat):Int)) rfl (by kernel_rfl) (by kernel_rfl) (by kernel_rfl) (fun _ _ _ h=>h) (Or.inl ⟨by rfl,?y10⟩) hS ?r10
      case y10=>
       intro w_ hS_;clear hw q1 r1;go_simp
       first|done|rw[hw2]
      simp only[Act.put,ZPa,ZPb,ZPc,ZPd,ZPe,ZPf];refine wTy 11 ?v11 rfl ?y11 hS ?r11
      case y11=>
       intro w_ hS_;go_simp
       try with_reducible rfl
      simp only[Act.put,ZPa,ZPb,ZPc,ZPd,ZPe,ZPf]
      refine wpAnyH_one (k:=12) (fuel:=0) (by kernel_rfl) rfl (by kernel_rfl) (fun K_ hK=>?_)
      have c_:wd.cell? ⟨g,2,none⟩=some (.int .u64 (a:Int)):=by rw[cell_of_row _ g 2 _ _ _ q1];rfl
      have f_:wd.frozen? ⟨g,2,none⟩=false:=by simp[World.frozen?,q1]
      refine wp_skip_op (wd.setCell ⟨g,2,none⟩ (.int .u64 ((a*256+z.toNat:Nat):Int))) (by go_simp) ?_
      clear c_ f_;replace q1:=row_set q1 2 (.int .u64 ((a*256+z.toNat:Nat):Int))
      replace r1:=heap_other (g:=g) (j:=2) (v:=.int .u64 ((a*256+z.toNat:Nat):Int)) r1 (by omega)
      replace hw:=hw.setCell (p:=⟨g,2,none⟩) hgl (.int .u64 ((a*256+z.toNat:Nat):Int))
      replace hS:(wd.setCell ⟨g,2,none⟩ (.int .u64 ((a*256+z.toNat:Nat):Int))).cell? ⟨b,off+(q+j),none⟩=some (.int .u8 (bv z)):=by rw[hw.cell (p:=⟨b,off+(q+j),none⟩) hbl];exact hcl
      refine hK _ _ hS ?_;simp only[Act.put,ZPa,ZPb,ZPc];clear hK hS
      generalize wd.setCell ⟨g,2,none⟩ (.int .u64 ((a*256+z.toNat:Nat):Int))=we at *
      refine wpAnyH_done (by kernel_rfl) ?_ _
      refine NoPanic.normal ?_;clear hcl hw1 hw2 hwq
      go_wp2_with (fail)
      refine⟨⟨j,a*256+z.toNat,by omega,rfl,hnext.out,q1,r1,hw⟩,?_⟩
      simp[intOf]
  ·go_wp2_with (first|(refine wpList_alloc rfl 118 rfl #[.int .i64 0,.int .i64 0,.int .u64 0,nS] zFd ?_)|(refine wpList_store_row rfl 118 _ _ rfl (w2.heap.size) #[.int .i64 no,.int .i64 2,.int .u64 0,nS] rfl rfl 118 _ q0 infoF rfl hone2 ?_)|fail)
   have hgl:w.heap.size≤w2.heap.size:=hw.size
   replace hw:=hw3;replace r1:=r3
   generalize (w2.alloc (.cells #[.int .i64 0,.int .i64 0,.int .u64 0,nS] 118)).setRow w2.heap.size #[.int .i64 no,.int .i64 2,.int .u64 0,nS]=w3 at *
   clear q0 hone2 hba hw3 r3
   generalize hge:w2.heap.size=g at *
   have cM:=r_number d q hq w3 _ (hB.keep hw)
   cases hr:rd 0 (d.drop q) with
   |er e=>
    have hv:rv (d.drop q) 2=.er e:=by simp[rv,ri_of_er hr]
    rw[hv] at hnx;have hfin:Hid (nx d p last c=.er q e):=hide hnx
    have he:(e==0)=false:=by rcases rd_er _ _ _ hr with h|h<;>subst h<;>rfl
    rw[hr] at cM;unfold nres at cM;clear hv hnx hr;refine cM.mono ?_;rintro e_ w4 ⟨rfl,hb⟩;replace r1:=keep hb r1;replace hw:=hw.trans (hb.mono hw.size);clear cM hb
    go_wp2_with (first|(refine wpList_store_row rfl 118 _ _ rfl (w.heap.size) #[.int .i64 0,.int .i64 0,.int .u64 0,nS] rfl rfl 118 _ r1 infoF rfl hone ?_)|fail)
    replace r1:=setRow_heap _ w.heap.size _ #[.int .i64 0,.int .i64 0,.int .u64 0,nS] _ _ r1;replace hw:=below_setRow hw (Nat.le_refl _) #[.int .i64 0,.int .i64 0,.int .u64 0,nS];refine bodyPost_ret (results_row_tmp2 rfl _ _ (w.heap.size) _ _ _ _ rfl r1 Tryz.underlying118 rfl infoF) rfl ?_;rw[hfin.out];exact⟨_,rfl,own_none _ _,hw⟩
   |ok y m=>
    have hk:=rd0_len hr;have hy:=(rd0_ok hr).2.2;have hri:=ri_of hr;rw[hr] at cM;unfold nres at cM;rw[List.length_drop] at hk;rw[List.length_drop,List.drop_drop] at hri;have hcp:=hcap _ _ _ rfl
    by_cases h2:d.length-q-m<y
    ·rw[if_pos h2] at hri
     have hv:rv (d.drop q) 2=.er 73:=by simp[rv,hri]
     rw[hv] at hnx;have hfin:Hid (nx d p last c=.er q 73):=hide hnx;clear hv hnx hri hr
     generalize hqm:q+m=r at *
     have d2:decide ((y:Int)>(d.length:Int)-(r:Int))=true:=by simp;omega
     refine cM.mono ?_;rintro e_ w4 ⟨rfl,hb⟩;replace r1:=keep hb r1;replace hw:=hw.trans (hb.mono hw.size);clear cM hb
     have hrl:r≤d.length:=by omega
     go_wp2_with (first|(refine wpList_store_row rfl 118 _ _ rfl (w.heap.size) #[.int .i64 0,.int .i64 0,.int .u64 0,nS] rfl rfl 118 _ r1 infoF rfl hone ?_)|fail)
     replace r1:=setRow_heap _ w.heap.size _ #[.int .i64 0,.int .i64 0,.int .u64 0,nS] _ _ r1;replace hw:=below_setRow hw (Nat.le_refl _) #[.int .i64 0,.int .i64 0,.int .u64 0,nS];refine bodyPost_ret (results_row_tmp2 rfl _ _ (w.heap.size) _ _ _ _ rfl r1 Tryz.underlying118 rfl infoF) rfl ?_;rw[hfin.out];exact⟨_,rfl,own_none _ _,hw⟩
    ·rw[if_neg h2] at hri
     have hv:rv (d.drop q) 2=.ok 0 ((d.drop (q+m)).take y) (m+y):=by simp[rv,hri]
     rw[hv] at hnx
     generalize hX:(d.drop (q+m)).take y=xs at *
     have hxl:xs.length=y:=by rw[←hX,List.length_take,List.length_drop];omega
     have hfin:Hid (nx d p last c=.ok ⟨no,2,0,xs⟩ (q+(m+y))):=hide hnx
     have hsl:=sl_mid ao d.length cap (q+m) (q+m+y) (by omega) (by omega)
     have hbm:=fun V (h:BysB V (.slice ao d.length cap) d)=>bysB_mid (m:=q+m) (n:=q+m+y) h (by omega) (by omega) hcp
     rw[Nat.add_sub_cancel_left,hX] at hbm;clear hv hnx hri hr;replace hX:=hide hX
     have hxb:xs.length≤140737488355000:=by omega
     replace hxl:=hide hxl
     have hqe:Hid (((q+m:Nat):Int)+(y:Int)=((q+(m+y):Nat):Int)):=hide (by omega)
     generalize slc ao cap (q+m) (q+m+y)=u0 at *
     generalize hqm:q+m=r at *
     rw[Int.natCast_add] at hsl
     have d2:decide ((y:Int)>(d.length:Int)-(r:Int))=false:=by simp;omega
     have hrl:r≤d.length:=by omega
     have hb0':∀V:World,Below V.heap.size V (V.alloc (.cells #[] 5)):=fun V=>(Below.refl _ _).alloc (Nat.le_refl _) _
     refine cM.mono ?_;rintro e_ w4 ⟨rfl,hb⟩;replace r1:=keep hb r1;replace q1:=keep hb q1;replace hw:=hw.trans (hb.mono hw.size);clear cM hb;have hbe:=hb0' w4;have hwe:=Below.after hw hbe;have hE:=hbm _ (hB.keep hwe);have hOn:=own_nil w4
     go_wp2_with (at_builtin;suffices h9:True∧_ from h9.2)
     refine⟨trivial,?_⟩
     refine wpList_append_B rfl (.tmp 130) (.tmp 137) rfl w4.heap.size _ [] rfl hOn _ xs rfl hE (by simp only[List.length_nil];omega) hbe.size ?_
     intro u2 w5 hO2 hgr;rw[List.nil_append] at hO2;have hbf:=hbe.grown hgr hbe.size (own_low hOn);clear hgr hOn hE hbm hbe;replace r1:=keep hbf r1;have hg5:=lt_of_row q1;replace q1:=keep hbf q1;have hs4:=hw.size;replace hw:=Below.after hw hbf;obtain⟨ao2,ac2,hu2⟩:=slen_own hO2;subst hu2
     have c2:w5.cell? ⟨g,3,none⟩=some nS:=by rw[cell_of_row _ g 3 _ _ _ q1];rfl
     have f2:w5.frozen? ⟨g,3,none⟩=false:=by simp[World.frozen?,q1]
     have r5:=heap_other (g:=g) (j:=3) (v:=.slice ao2 xs.length ac2) r1 (by omega)
     have q5:(w5.setCell ⟨g,3,none⟩ (.slice ao2 xs.length ac2)).heap[g]? =some (.cells #[.int .i64 no,.int .i64 2,.int .u64 0,.slice ao2 xs.length ac2] 118 (0,0)):=row_set q1 3 _;have hw5:=hw.setCell (p:=⟨g,3,none⟩) hgl (.slice ao2 xs.length ac2);have hO5:=own_other (j:=3) (u:=.slice ao2 xs.length ac2) hO2 hg5
     have hone3:(#[.int .i64 no,.int .i64 2,.int .u64 0,.slice ao2 xs.length ac2]:Array Value).all (·.oneCell')=true:=by simp[Value.oneCell']
     go_wp2_with (first|(refine wpList_load_want rfl 118 _ rfl g rfl 118 #[.int .i64 no,.int .i64 2,.int .u64 0,.slice ao2 xs.length ac2] (0,0) _ q5 Tryz.underlying118 rfl infoF ?_)|(refine wpList_store_row rfl 118 _ _ rfl (w.heap.size) #[.int .i64 no,.int .i64 2,.int .u64 0,.slice ao2 xs.length ac2] rfl rfl 118 _ r5 infoF rfl hone3 ?_)|fail)
     replace r5:=setRow_heap _ w.heap.size _ #[.int .i64 no,.int .i64 2,.int .u64 0,.slice ao2 xs.length ac2] _ _ r5;replace hw5:=below_setRow hw5 (Nat.le_refl _) #[.int .i64 no,.int .i64 2,.int .u64 0,.slice ao2 xs.length ac2];refine bodyPost_ret (results_row_tmp2 rfl _ _ (w.heap.size) _ _ _ _ rfl r5 Tryz.underlying118 rfl infoF) rfl ?_;rw[hfin.out]
     refine⟨.slice ao2 xs.length ac2,by rw[nxv,←hqe.out];rfl,own_down (Own.move hO5 (fun g' o h1 h2=>?_)) hs4,hw5⟩
     rw[heap_setRow_other _ _ _ _ (by omega)]
     exact h2
  ·have hld:(d.drop q).length=d.length-q:=List.length_drop
   by_cases h8:(d.drop q).length<4
   ·have hv:rv (d.drop q) 5=.er 73:=by unfold rv;rw[if_neg (by decide),if_pos rfl,if_pos h8]
    rw[hv] at hnx
    have hfin:Hid (nx d p last c=.er q 73):=hide hnx
    have d5:decide ((d.length:Int)-(q:Int)<4)=true:=by simp;omega
    clear hv hnx h8 hld
    go_wp2_with (first|(refine wpList_alloc rfl 118 rfl #[.int .i64 0,.int .i64 0,.int .u64 0,nS] zFd ?_)|(refine wpList_store_row rfl 118 _ _ rfl (w2.heap.size) #[.int .i64 no,.int .i64 5,.int .u64 0,nS] rfl rfl 118 _ q0 infoF rfl hone2 ?_)|(refine wpList_store_row rfl 118 _ _ rfl (w.heap.size) #[.int .i64 0,.int .i64 0,.int .u64 0,nS] rfl rfl 118 _ r3 infoF rfl hone ?_)|fail)
    replace r3:=setRow_heap _ w.heap.size _ #[.int .i64 0,.int .i64 0,.int .u64 0,nS] _ _ r3;replace hw3:=below_setRow hw3 (Nat.le_refl _) #[.int .i64 0,.int .i64 0,.int .u64 0,nS];refine bodyPost_ret (results_row_tmp2 rfl _ _ (w.heap.size) _ _ _ _ rfl r3 Tryz.underlying118 rfl infoF) rfl ?_;rw[hfin.out];exact⟨_,rfl,own_none _ _,hw3⟩
   ·have hv:rv (d.drop q) 5=.ok (fxv ((d.drop q).take 4)) [] 4:=by unfold rv;rw[if_neg (by decide),if_pos rfl,if_neg h8]
    rw[hv] at hnx
    have hfin:Hid (nx d p last c=.ok ⟨no,5,fxv ((d.drop q).take 4),[]⟩ (q+4)):=hide hnx
    have d5:decide ((d.length:Int)-(q:Int)<4)=false:=by simp;omega
    have hqk:q+4≤d.length:=by omega
    clear hv hnx h8 hld
    go_wp2_with (first|(refine wpList_alloc rfl 118 rfl #[.int .i64 0,.int .i64 0,.int .u64 0,nS] zFd ?_)|(refine wpList_store_row rfl 118 _ _ rfl (w2.heap.size) #[.int .i64 no,.int .i64 5,.int .u64 0,nS] rfl rfl 118 _ q0 infoF rfl hone2 ?_)|fail)
    have hgl:w.heap.size≤w2.heap.size:=hw.size;replace hw:=hw3;replace r1:=r3
    generalize (w2.alloc (.cells #[.int .i64 0,.int .i64 0,.int .u64 0,nS] 118)).setRow w2.heap.size #[.int .i64 no,.int .i64 5,.int .u64 0,nS]=w3 at *
    clear q0 hone2 hba hw3 r3
    generalize hge:w2.heap.size=g at *
    go_loopw [18] (fun i wr=>∃(j a:Nat),j≤4∧i=.int .i64 ((j:Int)-1)∧a=fxv (((d.drop q).take 4).drop j)∧wr.heap[g]? =some (.cells #[.int .i64 no,.int .i64 5,.int .u64 (a:Int),nS] 118 (0,0))∧wr.heap[w.heap.size]? =some (.cells #[.int .i64 0,.int .i64 0,.int .u64 0,nS] 118 (0,0))∧Below w.heap.size w wr) (fun i _=>(intOf i+1).toNat)
    case atStart=>exact⟨4,0,by omega,rfl,by rw[List.drop_eq_nil_of_le (by rw[List.length_take];omega)];rfl,q1,r1,hw⟩
    case round=>
     clear q1 r1 hw;obtain⟨j,a,hj,rfl,ha,q1,r1,hw⟩:=hrel
     cases j with
     |zero=>
      have hd:decide (((0:Nat):Int)-1≥0)=false:=rfl;rw[List.drop_zero] at ha;rw[←ha] at hfin;clear ha;have q5:=q1;have r5:=r1;have hw5:=hw
      have hone3:(#[.int .i64 no,.int .i64 5,.int .u64 (a:Int),nS]:Array Value).all (·.oneCell')=true:=by simp[Value.oneCell']
      go_wp2_with (first|(refine wpList_load_want rfl 118 _ rfl g rfl 118 #[.int .i64 no,.int .i64 5,.int .u64 (a:Int),nS] (0,0) _ q5 Tryz.underlying118 rfl infoF ?_)|(refine wpList_store_row rfl 118 _ _ rfl (w.heap.size) #[.int .i64 no,.int .i64 5,.int .u64 (a:Int),nS] rfl rfl 118 _ r5 infoF rfl hone3 ?_)|fail)
      replace r5:=setRow_heap _ w.heap.size _ #[.int .i64 no,.int .i64 5,.int .u64 (a:Int),nS] _ _ r5;replace hw5:=below_setRow hw5 (Nat.le_refl _) #[.int .i64 no,.int .i64 5,.int .u64 (a:Int),nS];refine bodyPost_ret (results_row_tmp2 rfl _ _ (w.heap.size) _ _ _ _ rfl r5 Tryz.underlying118 rfl infoF) rfl ?_;rw[hfin.out];exact⟨nS,rfl,own_none _ _,hw5⟩
     |succ j=>
      obtain⟨b,off,hao,hbl,hcl⟩:=hB.cellAt (j:=q+j) (by omega)
      have hji:(((j+1:Nat):Int)-1)=(j:Int):=by omega
      rw[hji];clear hji
      have hd:decide ((j:Int)≥0)=true:=by simp
      have ha7:a<72057594037927936:=by
       have:=fxv_lt (((d.drop q).take 4).drop (j+1));rw[←ha,List.length_drop,List.length_take,List.length_drop] at this
       exact Nat.lt_of_lt_of_le this (by have:(256:Nat)^(min 4 (d.length-q)-(j+1))≤256^7:=Nat.pow_le_pow_right (by decide) (by omega);simpa using this)
      have hnext:Hid (a*256+(gb d (q+j)).toNat=fxv (((d.drop q).take 4).drop j)):=hide (by
       rw[drop_at _ j (by rw[List.length_take,List.length_drop];omega),fxv_cons,ha,gb_take _ _ _ _ (by omega) hqk])
      have hxb:=bnd (gb d (q+j))
      have hq1:0≤(q:Int)+(j:Int)∧(q:Int)+(j:Int)<(d.length:Int):=by omega
      clear ha
      generalize gb d (q+j)=z at *
      subst hao
      go_wp2_with (fail)
      have hbd:Below wr.heap.size wr wr.drew:=below_drN (Below.refl _ _) 1;replace hw:=Below.after hw hbd;replace q1:=keep hbd q1;replace r1:=keep hbd r1
      have hS:wr.drew.cell? ⟨b,off+(q+j),none⟩=some (.int .u8 (bv z)):=by rw[hw.cell (p:=⟨b,off+(q+j),none⟩) hbl];exact hcl
      have hw1:IntKind.u64.wrap ((a:Int)*256)=(a:Int)*256:=by rw[IntKind.wrap_u64];omega
      have hw2:IntKind.u64.wrap ((a:Int)*256+bv z)=((a*256+z.toNat:Nat):Int):=by rw[IntKind.wrap_u64,bv8];omega
      have hwq:IntKind.i64.wrap ((q:Int)+(j:Int))=((q+j:Nat):Int):=by rw[IntKind.wrap_i64];omega
      clear hbd;refine wp_region_noPanic ?_
      refine wp_region_held (S:=fun W=>W.cell? ⟨b,off+(q+j),none⟩=some (.int .u8 (bv z))) (by kernel_rfl) ?_
      change wpAnyH _ _ _ _ _ _ _ _ (World.drew _)
      generalize wr.drew=wd at *
      refine wTy 0 ?v12 rfl ?y12 hS ?r12
      case y12=>
       intro w_ hS_;go_simp
       try with_reducible rfl
      simp only[Act.put,ZPa,ZPc,ZPd,ZPe,ZPf];refine wTy 3 ?v13 rfl ?y13 hS ?r13
      case y13=>
       intro w_ hS_;go_simp
       try with_reducible rfl
      simp only[Act.put,ZPa,ZPb,ZPc,ZPd,ZPe,ZPf];refine wTy 4 ?v14 rfl ?y14 hS ?r14
      case y14=>
       intro w_ hS_;go_simp
       try with_reducible rfl
      simp only[Act.put,ZPa,ZPb,ZPc,ZPd,ZPe,ZPf];refine wTy 5 ?v15 rfl ?y15 hS ?r15
      case y15=>
       intro w_ hS_;go_simp
       try with_reducible rfl
      simp only[Act.put,ZPa,ZPb,ZPc,ZPd,ZPe,ZPf]
      refine wpAnyH_take (i:=6) (v:=.int .i64 ((q+j:Nat):Int)) rfl (by kernel_rfl) (by kernel_rfl) (by kernel_rfl) (fun _ _ _ h=>h) (Or.inl ⟨by rfl,?y16⟩) hS ?r16
      case y16=>
       intro w_ hS_;clear hw q1 r1;go_simp
       first|done|rw[hwq]
      simp only[Act.put,ZPa,ZPb,ZPc,ZPd,ZPe,ZPf]
      refine wpAnyH_take (i:=7) (v:=.pointer (some ⟨b,off+(q+j),none⟩)) rfl (by kernel_rfl) (by kernel_rfl) (by kernel_rfl) (fun _ _ _ h=>h) (Or.inl ⟨by rfl,?y17⟩) hS ?r17
      case y17=>
       intro w_ hS_;clear hw q1 r1;go_simp
       first|done|(rw[if_pos (by omega)];rfl)
      simp only[Act.put,ZPa,ZPb,ZPc,ZPd,ZPe,ZPf];refine wTy 8 (.int .u8 (bv z)) rfl ?y18 hS ?r18
      case y18=>
       intro w_ hS_;have c_:=hS_;go_simp
       try with_reducible rfl
      simp only[Act.put,ZPa,ZPb,ZPc,ZPd,ZPe,ZPf];refine wTy 9 (.int .u64 (bv z)) rfl ?y19 hS ?r19
      case y19=>
       intro w_ hS_;clear hw q1 r1;go_simp
       first|done|(rw[IntKind.wrap_u64,Int.emod_eq_of_lt (by omega) (by omega)])
      simp only[Act.put,ZPa,ZPb,ZPc,ZPd,ZPe,ZPf]
      refine wpAnyH_one (k:=1) (fuel:=4) (by kernel_rfl) rfl (by kernel_rfl) (fun K_ hK=>?_)
      have c_:wd.cell? ⟨g,2,none⟩=some (.int .u64 (a:Int)):=by rw[cell_of_row _ g 2 _ _ _ q1];rfl
      refine wp_value_op (.int .u64 (a:Int)) (by go_simp) ?_
      clear c_;refine hK _ _ hS ?_;simp only[Act.put,ZPa,ZPb,ZPc,ZPd,ZPe,ZPf];clear hK
      refine wpAnyH_take (i:=2) (v:=.int .u64 ((a:Int)*256)) rfl (by kernel_rfl) (by kernel_rfl) (by kernel_rfl) (fun _ _ _ h=>h) (Or.inl ⟨by rfl,?y20⟩) hS ?r20
      case y20=>
       intro w_ hS_;clear hw q1 r1;go_simp
       first|done|rw[hw1]
      simp only[Act.put,ZPa,ZPb,ZPc,ZPd,ZPe,ZPf]
      refine wpAnyH_take (i:=10) (v:=.int .u64 ((a*256+z.toNat:Nat):Int)) rfl (by kernel_rfl) (by kernel_rfl) (by kernel_rfl) (fun _ _ _ h=>h) (Or.inl ⟨by rfl,?y21⟩) hS ?r21
      case y21=>
       intro w_ hS_;clear hw q1 r1;go_simp
       first|done|rw[hw2]
      simp only[Act.put,ZPa,ZPb,ZPc,ZPd,ZPe,ZPf];refine wTy 11 ?v22 rfl ?y22 hS ?r22
      case y22=>
       intro w_ hS_;go_simp
       try with_reducible rfl
      simp only[Act.put,ZPa,ZPb,ZPc,ZPd,ZPe,ZPf]
      refine wpAnyH_one (k:=12) (fuel:=0) (by kernel_rfl) rfl (by kernel_rfl) (fun K_ hK=>?_)
      have c_:wd.cell? ⟨g,2,none⟩=some (.int .u64 (a:Int)):=by rw[cell_of_row _ g 2 _ _ _ q1];rfl
      have f_:wd.frozen? ⟨g,2,none⟩=false:=by simp[World.frozen?,q1]
      refine wp_skip_op (wd.setCell ⟨g,2,none⟩ (.int .u64 ((a*256+z.toNat:Nat):Int))) (by go_simp) ?_
      clear c_ f_;replace q1:=row_set q1 2 (.int .u64 ((a*256+z.toNat:Nat):Int))
      replace r1:=heap_other (g:=g) (j:=2) (v:=.int .u64 ((a*256+z.toNat:Nat):Int)) r1 (by omega)
      replace hw:=hw.setCell (p:=⟨g,2,none⟩) hgl (.int .u64 ((a*256+z.toNat:Nat):Int))
      replace hS:(wd.setCell ⟨g,2,none⟩ (.int .u64 ((a*256+z.toNat:Nat):Int))).cell? ⟨b,off+(q+j),none⟩=some (.int .u8 (bv z)):=by rw[hw.cell (p:=⟨b,off+(q+j),none⟩) hbl];exact hcl
      refine hK _ _ hS ?_;simp only[Act.put,ZPa,ZPb,ZPc];clear hK hS
      generalize wd.setCell ⟨g,2,none⟩ (.int .u64 ((a*256+z.toNat:Nat):Int))=we at *
      refine wpAnyH_done (by kernel_rfl) ?_ _
      refine NoPanic.normal ?_;clear hcl hw1 hw2 hwq
      go_wp2_with (fail)
      refine⟨⟨j,a*256+z.toNat,by omega,rfl,hnext.out,q1,r1,hw⟩,?_⟩
      simp[intOf]
theorem setRow_sz (w:World) (g:Nat) (cs:Array Value):(w.setRow g cs).heap.size=w.heap.size:=by
 show(w.heap.modify _ _).size=_
 rw[Array.size_modify]
end Go.Proofs.YtmmlkfkpblokiaaGreatDoor
