import Derived.Test.YtmmlkfkpblokiaaGreatDoorQzWn
import Derived.RangeFuncNested
import Derived.RangeFuncBound
import Derived.RangeFuncCalls
import Derived.RangeFuncLeaves
import Derived.Shelf.Abstract
import Derived.Shelf.RegionOpen
import Derived.OwnWalkIn
import Derived.TacticsInMore
import Derived.LoopNIn
import Derived.LoopIn
import Derived.Maps.AppendAt
import Derived.RangeFuncBox
set_option maxRecDepth 100000
set_option maxHeartbeats 16000000
namespace Go.Proofs.YtmmlkfkpblokiaaGreatDoor
open Go Go.RowKit Go.Sort
attribute [local go_sem] setCell_drewN alloc_drewN
def WpStay (p:Prop):Prop:=p
theorem wpList_stay {P:Program} {ops:Array Oper} {rest:List Oper} {a:Act} {w:World} {Q:Exit→Act→World→Prop} (h:WpStay (wpList P ops Q rest a w)):wpList P ops Q rest a w:=h
theorem own_other {W:World} {b n g j:Nat} {v u:Value} {xs:List Value} (h:W.ownsRow b 5 1 v n xs) (hg:g<b):(W.setCell ⟨g,j,none⟩ u).ownsRow b 5 1 v n xs:=by
 obtain⟨h1,h2|⟨g',cap,cur,rfl,hb,hg',h3⟩⟩:=h
 ·exact⟨h1,.inl h2⟩
 ·exact⟨h1,.inr ⟨g',cap,cur,rfl,hb,heap_other hg' (by omega),h3⟩⟩
def whl (d:List B):Nat→Nat→Int→Nat→List (Nat×Fd)×Option (Nat×Int)
 |0,_,_,_=>([],none)
 |k+1,p,last,c=>
  if p<d.length then
   match rh (d.drop p) last c with
   | .er e=>([],some (p,e))
   | .ok no ty n=>match rv (d.drop (p+n)) ty with
    | .er e=>([],some (p+n,e))
    | .ok num dat m=>((p,⟨no,ty,num,dat⟩)::(whl d k (p+n+m) no (c+1)).1,(whl d k (p+n+m) no (c+1)).2)
  else([],none)
theorem rh_ok {l:List B} {last:Int} {c:Nat} {no ty:Int} {n:Nat} (h:rh l last c=.ok no ty n):0<n∧n≤l.length∧c≠64∧known ty∧last<no∧no≤536870911∧0≤no:=by
 unfold rh at h
 cases hr:rd 0 l with
 |er e=>rw[hr] at h;cases h
 |ok v m=>
  rw[hr] at h;simp only at h;have hl:=rd0_len hr
  by_cases h1:c=64
  ·rw[if_pos h1] at h;cases h
  rw[if_neg h1] at h
  by_cases h2:536870911<v/8
  ·rw[if_pos h2] at h;cases h
  rw[if_neg h2] at h
  by_cases h3:hck ⟨((v:Int)/8),((v:Int)%8),0,[]⟩ last=0
  ·rw[if_neg (by rw[h3];simp)] at h
   injection h with e1 e2 e3
   unfold hck at h3;simp only at h3
   by_cases h4:(v:Int)/8≤last∨536870911<(v:Int)/8
   ·rw[if_pos h4] at h3;cases h3
   rw[if_neg h4] at h3
   by_cases h5:known ((v:Int)%8)
   ·subst e1 e2 e3
    exact⟨hl.1,hl.2.1,h1,h5,by omega,by omega,by omega⟩
   ·rw[if_neg h5] at h3;cases h3
  ·rw[if_pos h3] at h;cases h
theorem rh_er {l:List B} {last:Int} {c:Nat} {e:Int} (h:rh l last c=.er e):e≠0:=by
 unfold rh at h
 cases hr:rd 0 l with
 |er e'=>
  rw[hr] at h
  injection h with h
  subst h
  rcases rd_er _ _ _ hr with h|h<;>subst h<;>decide
 |ok v m=>
  rw[hr] at h;simp only at h
  split at h
  ·injection h with h;subst h;decide
  ·split at h
   ·injection h with h;subst h;decide
   ·split at h
    ·rename_i h3
     injection h with h;subst h;exact h3
    ·cases h
theorem rv_ok {l:List B} {t:Int} {num n:Nat} {dat:List B} (h:rv l t=.ok num dat n):n≤l.length∧num<18446744073709551616∧dat.length≤l.length:=by
 unfold rv at h
 split at h
 ·split at h
  ·cases h
  ·injection h with h1 h2 h3
   subst h1 h2 h3
   have:=fxv_lt2 (l.take 8)
   rw[List.length_take,Nat.min_eq_left (by omega)] at this
   exact⟨by omega,by omega,by simp⟩
 split at h
 ·split at h
  ·cases h
  ·injection h with h1 h2 h3
   subst h1 h2 h3
   have:=fxv_lt2 (l.take 4)
   rw[List.length_take,Nat.min_eq_left (by omega)] at this
   exact⟨by omega,by omega,by simp⟩
 split at h
 ·cases hr:ri l with
  |er e=>rw[hr] at h;cases h
  |ok p m=>
   rw[hr] at h
   injection h with h1 h2 h3
   subst h1 h2 h3;have:=ri_ok hr
   exact⟨this.2.1,by omega,this.2.2.2.2⟩
 ·cases hr:rd 0 l with
  |er e=>rw[hr] at h;cases h
  |ok v m=>
   rw[hr] at h
   injection h with h1 h2 h3
   subst h1 h2 h3
   exact⟨(rd0_len hr).2.1,(rd0_ok hr).2.2,by simp⟩
theorem rv_er {l:List B} {t e:Int} (h:rv l t=.er e):e≠0:=by
 unfold rv at h
 split at h
 ·split at h
  ·injection h with h;subst h;decide
  ·cases h
 split at h
 ·split at h
  ·injection h with h;subst h;decide
  ·cases h
 split at h
 ·cases hr:ri l with
  |er e'=>
   rw[hr] at h
   injection h with h
   subst h
   rcases ri_er hr with h|h<;>subst h<;>decide
  |ok p m=>rw[hr] at h;cases h
 ·cases hr:rd 0 l with
  |er e'=>
   rw[hr] at h
   injection h with h
   subst h
   rcases rd_er _ _ _ hr with h|h<;>subst h<;>decide
  |ok v m=>rw[hr] at h;cases h
theorem whl_end {d:List B} {k p:Nat} {last:Int} {c:Nat} (h:¬p<d.length):whl d k p last c=([],none):=by
 cases k with
 |zero=>rfl
 |succ k=>rw[whl,if_neg h]
theorem whl_head {d:List B} {k p:Nat} {last:Int} {c:Nat} {e:Int} (h:p<d.length) (hk:d.length-p≤k) (hr:rh (d.drop p) last c=.er e):whl d k p last c=([],some (p,e)):=by
 cases k with
 |zero=>omega
 |succ k=>rw[whl,if_pos h,hr]
theorem whl_value {d:List B} {k p:Nat} {last:Int} {c:Nat} {no ty:Int} {n:Nat} {e:Int} (h:p<d.length) (hk:d.length-p≤k) (hr:rh (d.drop p) last c=.ok no ty n) (hv:rv (d.drop (p+n)) ty=.er e):whl d k p last c=([],some (p+n,e)):=by
 cases k with
 |zero=>omega
 |succ k=>rw[whl,if_pos h,hr];simp only;rw[hv]
theorem whl_step {d:List B} {k p:Nat} {last:Int} {c:Nat} {no ty:Int} {n num m:Nat} {dat:List B} (h:p<d.length) (hk:d.length-p≤k) (hr:rh (d.drop p) last c=.ok no ty n) (hv:rv (d.drop (p+n)) ty=.ok num dat m):∃j,d.length-(p+n+m)≤j∧whl d k p last c=((p,⟨no,ty,num,dat⟩)::(whl d j (p+n+m) no (c+1)).1,(whl d j (p+n+m) no (c+1)).2):=by
 have:=(rh_ok hr).1
 cases k with
 |zero=>omega
 |succ k=>exact⟨k,by omega,by rw[whl,if_pos h,hr];simp only;rw[hv]⟩
theorem row_set {W:World} {g:Nat} {cs:Array Value} {t:TypeId} (hg:W.heap[g]? =some (.cells cs t (0,0))) (j:Nat) (z:Value):(W.setCell ⟨g,j,none⟩ z).heap[g]? =some (.cells (cs.setIfInBounds j z) t (0,0)):=
 heap_setCell_same W g j _ t _ hg
theorem wp_skip_op {P:Program} {o:Oper} {a:Act} {w:World} {K:Act→World→Prop} {Q:Exit→Act→World→Prop} (w':World) (hx:(execOp a.eval o).run P w=.ok .skip w') (h:K (a.put o.dst undef) w'):o.wp P a w K Q:=by
 unfold Oper.wp;rw[hx,Oper.upon_skip];exact h
theorem wpListIn_load_want {F:Fence} {n:Nat} {P:Program} {ops:Array Oper} {rest:List Oper} {o:Oper} {a:Act} {w:World} {Q:Exit→Act→World→Prop} (hg:o.guard=none) (ty:TypeId) (x:Operand) (ho:o.op=.load ty x)
 (g:Nat) (hx:a.eval x=.pointer (some ⟨g,0,none⟩)) (t:TypeId) (cs:Array Value) (fr:Nat×Nat) (d:TypeDesc) (hr:w.heap[g]? =some (.cells cs t fr))
 (hu:P.underlying ty=some d) (hd:(match d with| .struct _| .array _ _=>true|_=>false)=true) (hi:(P.info? ty).map (·.size)=some cs.size)
 (h:wpListIn F n P ops Q rest (a.put o.dst (.agg cs)) w):wpListIn F n P ops Q (o::rest) a w:=by
 refine wpListIn_plain hg fun K hK=>?_
 refine⟨?_,?_⟩
 ·intro f hf
  simp[Oper.about,ho] at hf
 ·rw[Oper.semAt_plain F _ _ (by rw[ho];intro c hc;cases hc)]
  unfold execOp
  simp only[ho,hx,Instr.loadAt,Instr.sureAddr,Sem.run_bind,Sem.run_pure,Result.andThen_ok,run_loadVar_row w g t ty cs fr d hr hu hd hi];exact hK _ _ h
def wkr (v:Value):Array Value:=#[v,.int .i64 0,.int .i64 0]
theorem a_fields (d:List B) (v:Value) (wk l:Nat) (J Jx:List (Nat×Fd)→World→Prop) (hcap:∀a l c,v=.slice a l c→l≤c)
 (hJb:∀pre A C,J pre A→Below A.heap.size A C→J pre C)
 (hJr:∀pre A,J pre A→A.heap[wk]? =some (.cells (wkr v) 165 (0,0))∧BysB A v d)
 (hY:∀pre (x:Nat×Fd) u A C,J pre A→Below A.heap.size A C→Own C A.heap.size u x.2.dat→x.1<d.length→Fok x.2→pre.length<64→YieldAt Fence.wide 2 Tryz.prog l #[.int .i64 (x.1:Int),.agg #[.int .i64 x.2.no,.int .i64 x.2.ty,.int .u64 (x.2.num:Int),u]] C fun e C'=>
  (e=.returned (.bool true)∧J (pre++[x]) C'∧∀g,A.heap.size≤g→g<C.heap.size→C'.heap[g]? =C.heap[g]?)∨(e=.returned (.bool false)∧Jx (pre++[x]) C'))
 (w:World) (h0:J [] w) (hd4:d.length≤4194304):
 Calls Tryz.prog 83 #[.pointer (some ⟨wk,0,none⟩),.func (.yield l) #[] #[]] w fun e w'=>(∃r,e=.returned r)∧
  (((whl d d.length 0 0 0).2=none∧J (whl d d.length 0 0 0).1 w')∨
   (∃p e0 W,(whl d d.length 0 0 0).2=some (p,e0)∧J (whl d d.length 0 0 0).1 W∧w'=(W.setCell ⟨wk,1,none⟩ (.int .i64 (p:Int))).setCell ⟨wk,2,none⟩ (.int .i64 e0))∨
   (∃pre,pre<+:(whl d d.length 0 0 0).1∧Jx pre w')):=by
 have hdl:=(hJr _ _ h0).2.2.1;obtain⟨ao,cap,rfl⟩:=(hJr _ _ h0).2.form
 go_enter Tryz.func83,Tryz.ntmps83
 go_wp2_with (fail)
 go_loopw [4,5,6] (fun a0 b0 c0 wr=>∃(p k:Nat) (last:Int) (pre:List (Nat×Fd)),p≤d.length∧pre.length≤64∧d.length-p≤k∧0≤last∧last≤536870911∧a0=.int .i64 (p:Int)∧b0=.int .i64 last∧c0=.int .i64 (pre.length:Int)∧whl d d.length 0 0 0=(pre++(whl d k p last pre.length).1,(whl d k p last pre.length).2)∧J pre wr) (fun a0 _ _ _=>d.length-(intOf a0).toNat)
 case atStart=>exact⟨0,d.length,0,[],by omega,by simp,by omega,by omega,by omega,rfl,rfl,rfl,by simp,h0⟩
 case round=>
  obtain⟨p,k,last,pre,hp,hpl,hk,hl0,hl1,rfl,rfl,rfl,hwh,hJ⟩:=hrel;clear h0;obtain⟨hrow,hB⟩:=hJr _ _ hJ;have hwl:=lt_of_row hrow
  have cb:wr.cell? ⟨wk,0,none⟩=some (.slice ao d.length cap):=by rw[cell_of_row wr wk 0 _ _ _ hrow];rfl
  by_cases hlt:p<d.length
  ·have hd:decide ((p:Int)<(d.length:Int))=true:=by simp;omega
   have cH:=a_readHead d p last pre.length hp wr _ hB
   cases hr:rh (d.drop p) last pre.length with
   |er e=>
    have hfin:Hid (whl d d.length 0 0 0=(pre,some (p,e))):=hide (by rw[hwh,whl_head hlt hk hr];simp)
    have he:(e==0)=false:=by simpa using rh_er hr
    rw[hr] at cH;simp only[hres] at cH;clear hr hwh
    generalize pre.length=pl at *
    go_wp2_with (fail)
    refine cH.mono ?_;rintro e_ w1 ⟨rfl,hb⟩;have hrow1:=keep hb hrow;have r0:=hp1_0 w1 (.cells #[.int .i64 0,.int .i64 0,.int .u64 0,nS] 118);have hba:Below wr.heap.size wr (w1.alloc (.cells #[.int .i64 0,.int .i64 0,.int .u64 0,nS] 118)):=hb.alloc hb.size _
    have hone:(#[.int .i64 0,.int .i64 0,.int .u64 0,nS]:Array Value).all (·.oneCell')=true:=by simp[Value.oneCell']
    clear cH
    go_wp2_with (first|(refine wpList_alloc rfl 118 rfl #[.int .i64 0,.int .i64 0,.int .u64 0,nS] zFd ?_)|(refine wpList_store_row rfl 118 _ _ rfl (w1.heap.size) #[.int .i64 0,.int .i64 0,.int .u64 0,nS] rfl rfl 118 _ r0 infoF rfl hone ?_;refine wpList_stay ?_)|fail)
    unfold WpStay;have hrow2:((w1.alloc (.cells #[.int .i64 0,.int .i64 0,.int .u64 0,nS] 118)).setRow w1.heap.size #[.int .i64 0,.int .i64 0,.int .u64 0,nS]).heap[wk]? =some (.cells (wkr (.slice ao d.length cap)) 165 (0,0)):=keep (below_setRow hba hb.size _) hrow;have hJ2:=hJb _ _ _ hJ (below_setRow hba hb.size #[.int .i64 0,.int .i64 0,.int .u64 0,nS])
    generalize (w1.alloc (.cells #[.int .i64 0,.int .i64 0,.int .u64 0,nS] 118)).setRow w1.heap.size #[.int .i64 0,.int .i64 0,.int .u64 0,nS]=w2 at *
    clear r0 hba hb hrow1 hone
    have c1:w2.cell? ⟨wk,1,none⟩=some (.int .i64 0):=by rw[cell_of_row w2 wk 1 _ _ _ hrow2];rfl
    have c2:w2.cell? ⟨wk,2,none⟩=some (.int .i64 0):=by rw[cell_of_row w2 wk 2 _ _ _ hrow2];rfl
    have f1:w2.frozen? ⟨wk,1,none⟩=false:=by simp[World.frozen?,hrow2]
    have f2:w2.frozen? ⟨wk,2,none⟩=false:=by simp[World.frozen?,hrow2]
    have c3:(w2.setCell ⟨wk,1,none⟩ (.int .i64 (p:Int))).cell? ⟨wk,2,none⟩=some (.int .i64 0):=by rw[World.cell?_setCell_other _ _ _ _ (by simp)];exact c2
    have f3:(w2.setCell ⟨wk,1,none⟩ (.int .i64 (p:Int))).frozen? ⟨wk,2,none⟩=false:=by rw[World.frozen?_setCell];exact f2
    go_wp2_with (fail)
    refine bodyPost_ret (results_none rfl _ _ _) rfl ?_;rw[hfin.out];exact⟨⟨_,rfl⟩,.inr (.inl ⟨p,e,w2,rfl,hJ2,rfl⟩)⟩
   |ok no ty n=>
    obtain⟨hn0,hnl,hc64,hty,hno0,hno1,hno2⟩:=rh_ok hr;rw[List.length_drop] at hnl
    have hpn:p+n≤d.length:=by omega
    rw[hr] at cH;simp only[hres] at cH;obtain⟨q,hqe⟩:∃q,Hid (q=p+n):=⟨_,hide rfl⟩
    have hpn2:q≤d.length:=by rw[hqe.out];exact hpn
    rw[←hqe.out] at cH;have hr2:=hide hr;have hwh2:=hide hwh;clear hr hwh
    have hpl2:pre.length<64:=by omega
    have hpre:=hide (rfl:pre.length=pre.length);obtain⟨pl,hple⟩:∃pl,Hid (pl=pre.length):=⟨_,hide rfl⟩
    rw[←hple.out] at cH hpl2⊢
    clear hpl hc64 hpre
    go_wp2_with (fail)
    refine cH.mono ?_;rintro e_ w1 ⟨rfl,hb⟩;have r0:=hp1_0 w1 (.cells #[.int .i64 0,.int .i64 0,.int .u64 0,nS] 118);have hba:Below wr.heap.size wr (w1.alloc (.cells #[.int .i64 0,.int .i64 0,.int .u64 0,nS] 118)):=hb.alloc hb.size _
    have hone:(#[.int .i64 no,.int .i64 ty,.int .u64 0,nS]:Array Value).all (·.oneCell')=true:=by simp[Value.oneCell']
    clear cH
    go_wp2_with (first|(refine wpList_alloc rfl 118 rfl #[.int .i64 0,.int .i64 0,.int .u64 0,nS] zFd ?_)|(refine wpList_store_row rfl 118 _ _ rfl (w1.heap.size) #[.int .i64 no,.int .i64 ty,.int .u64 0,nS] rfl rfl 118 _ r0 infoF rfl hone ?_;refine wpList_stay ?_)|fail)
    unfold WpStay;have hq:=below_setRow hba hb.size #[.int .i64 no,.int .i64 ty,.int .u64 0,nS];have rF:=setRow_heap _ w1.heap.size _ #[.int .i64 no,.int .i64 ty,.int .u64 0,nS] _ _ r0;have hgl:wr.heap.size≤w1.heap.size:=hb.size
    generalize (w1.alloc (.cells #[.int .i64 0,.int .i64 0,.int .u64 0,nS] 118)).setRow w1.heap.size #[.int .i64 no,.int .i64 ty,.int .u64 0,nS]=w2 at *
    clear r0 hba hb hone
    generalize w1.heap.size=g at *
    go_wp2_with (fail)
    have hbd:Below w2.heap.size w2 w2.drew:=below_drN (Below.refl _ _) 1;replace hq:=Below.after hq hbd;replace rF:=keep hbd rF;clear hbd
    have hS:w2.drew.cell? ⟨wk,0,none⟩=some (.slice ao d.length cap)∧w2.drew.cell? ⟨g,1,none⟩=some (.int .i64 ty):=⟨by rw[cell_of_row _ wk 0 _ _ _ (keep hq hrow)];rfl,by rw[cell_of_row _ g 1 _ _ _ rF];rfl⟩
    refine wp_region_noPanic ?_
    refine wp_region_held (S:=fun W=>W.cell? ⟨wk,0,none⟩=some (.slice ao d.length cap)∧W.cell? ⟨g,1,none⟩=some (.int .i64 ty)) (by kernel_rfl) ?_
    change wpAnyH _ _ _ _ _ _ _ _ (World.drew _)
    generalize w2.drew=w3 at *
    refine wTy 0 ?v1 rfl ?y1 hS ?r1
    case y1=>
     intro w_ hS_;go_simp
     try with_reducible rfl
    simp only[Act.put,ZPa,ZPc,ZPd,ZPe,ZPf];refine wTy 1 ?v2 rfl ?y2 hS ?r2
    case y2=>
     intro w_ hS_;go_simp
     try with_reducible rfl
    simp only[Act.put,ZPa,ZPb,ZPc,ZPd,ZPe,ZPf];refine wTy 2 ?v3 rfl ?y3 hS ?r3
    case y3=>
     intro w_ hS_;go_simp
     try with_reducible rfl
    simp only[Act.put,ZPa,ZPb,ZPc,ZPd,ZPe,ZPf];refine wTy 3 (.slice ao d.length cap) rfl ?y4 hS ?r4
    case y4=>
     intro w_ hS_;have c_:=hS_.1;go_simp
     try with_reducible rfl
    simp only[Act.put,ZPa,ZPb,ZPc,ZPd,ZPe,ZPf];refine wTy 4 ?v5 rfl ?y5 hS ?r5
    case y5=>
     intro w_ hS_;go_simp
     try with_reducible rfl
    simp only[Act.put,ZPa,ZPb,ZPc,ZPd,ZPe,ZPf];refine wTy 5 ?v6 rfl ?y6 hS ?r6
    case y6=>
     intro w_ hS_;go_simp
     try with_reducible rfl
    simp only[Act.put,ZPa,ZPb,ZPc,ZPd,ZPe,ZPf];refine wTy 6 (.int .i64 ty) rfl ?y7 hS ?r7
    case y7=>
     intro w_ hS_;have c_:=hS_.2;go_simp
     try with_reducible rfl
    simp only[Act.put,ZPa,ZPb,ZPc,ZPd,ZPe,ZPf]
    refine wpAnyH_one (k:=7) (fuel:=11) (by kernel_rfl) rfl (by kernel_rfl) (fun K_ hK=>?_)
    refine wp_call_ex (f:=109) (R:=fun v_ w_=>∃u,v_=.tuple #[.int .u64 (vnum (rv (d.drop q) ty):Int),u,.int .i64 (vend q (rv (d.drop q) ty)),.int .i64 (verr (rv (d.drop q) ty))]∧Own w_ w3.heap.size u (vdat (rv (d.drop q) ty))∧Below w3.heap.size w3 w_) (by kernel_rfl) ((a_readValue d q ty hpn2 hty w3 _ (hB.keep hq) hcap).mono (fun e_ w_ h_=>by obtain⟨u_,h1_,h2_,h3_⟩:=h_;exact⟨_,h1_,u_,rfl,h2_,h3_⟩)) (fun v_ w4 hX_=>?_)
    obtain⟨u,rfl,hO,hb_⟩:=hX_;have hg3:g<w3.heap.size:=lt_of_row rF;have hb3:=hq.size;replace hq:=Below.after hq hb_;replace rF:=keep hb_ rF;clear hb_;obtain⟨uo,uc,hu⟩:=slen_own hO;subst hu
    generalize hR:rv (d.drop q) ty=R at *
    replace hR:=hide hR
    replace hS:w4.cell? ⟨wk,0,none⟩=some (.slice ao d.length cap)∧w4.cell? ⟨g,1,none⟩=some (.int .i64 ty):=⟨by rw[cell_of_row _ wk 0 _ _ _ (keep hq hrow)];rfl,by rw[cell_of_row _ g 1 _ _ _ rF];rfl⟩
    refine hK _ _ hS ?_;simp only[Act.put,ZPa,ZPb,ZPc,ZPd,ZPe,ZPf];clear hK;refine wTy 8 ?v8 rfl ?y8 hS ?r8
    case y8=>
     intro w_ hS_;go_simp
     try with_reducible rfl
    simp only[Act.put,ZPa,ZPb,ZPc,ZPd,ZPe,ZPf];refine wTy 9 ?v9 rfl ?y9 hS ?r9
    case y9=>
     intro w_ hS_;go_simp
     try with_reducible rfl
    simp only[Act.put,ZPa,ZPb,ZPc,ZPd,ZPe,ZPf];refine wTy 10 ?v10 rfl ?y10 hS ?r10
    case y10=>
     intro w_ hS_;go_simp
     try with_reducible rfl
    simp only[Act.put,ZPa,ZPb,ZPc,ZPd,ZPe,ZPf];refine wTy 11 ?v11 rfl ?y11 hS ?r11
    case y11=>
     intro w_ hS_;go_simp
     try with_reducible rfl
    simp only[Act.put,ZPa,ZPb,ZPc,ZPd,ZPe,ZPf];refine wTy 12 ?v12 rfl ?y12 hS ?r12
    case y12=>
     intro w_ hS_;go_simp
     try with_reducible rfl
    simp only[Act.put,ZPa,ZPb,ZPc,ZPd,ZPe,ZPf];refine wTy 13 ?v13 rfl ?y13 hS ?r13
    case y13=>
     intro w_ hS_;go_simp
     try with_reducible rfl
    simp only[Act.put,ZPa,ZPb,ZPc,ZPd,ZPe,ZPf]
    refine wpAnyH_one (k:=14) (fuel:=4) (by kernel_rfl) rfl (by kernel_rfl) (fun K_ hK=>?_)
    have c_:w4.cell? ⟨g,2,none⟩=some (.int .u64 0):=by rw[cell_of_row _ g 2 _ _ _ rF];rfl
    have f_:w4.frozen? ⟨g,2,none⟩=false:=by simp[World.frozen?,rF]
    refine wp_skip_op (w4.setCell ⟨g,2,none⟩ (.int .u64 (vnum R:Int))) (by go_simp) ?_
    clear c_ f_;replace rF:=row_set rF 2 (.int .u64 (vnum R:Int));replace hq:=hq.setCell (p:=⟨g,2,none⟩) hgl (.int .u64 (vnum R:Int));replace hO:=own_other (j:=2) (u:=.int .u64 (vnum R:Int)) hO hg3
    replace hS:(w4.setCell ⟨g,2,none⟩ (.int .u64 (vnum R:Int))).cell? ⟨wk,0,none⟩=some (.slice ao d.length cap)∧(w4.setCell ⟨g,2,none⟩ (.int .u64 (vnum R:Int))).cell? ⟨g,1,none⟩=some (.int .i64 ty):=⟨by rw[cell_of_row _ wk 0 _ _ _ (keep hq hrow)];rfl,by rw[cell_of_row _ g 1 _ _ _ rF];rfl⟩
    refine hK _ _ hS ?_;simp only[Act.put,ZPa,ZPb,ZPc];clear hK
    generalize w4.setCell ⟨g,2,none⟩ (.int .u64 (vnum R:Int))=w5 at *
    refine wTy 15 ?v14 rfl ?y14 hS ?r14
    case y14=>
     intro w_ hS_;go_simp
     try with_reducible rfl
    simp only[Act.put,ZPa,ZPb,ZPc,ZPd,ZPe,ZPf]
    refine wpAnyH_one (k:=16) (fuel:=2) (by kernel_rfl) rfl (by kernel_rfl) (fun K_ hK=>?_)
    have c_:w5.cell? ⟨g,3,none⟩=some nS:=by rw[cell_of_row _ g 3 _ _ _ rF];rfl
    have f_:w5.frozen? ⟨g,3,none⟩=false:=by simp[World.frozen?,rF]
    refine wp_skip_op (w5.setCell ⟨g,3,none⟩ (.slice uo (vdat R).length uc)) (by go_simp) ?_
    clear c_ f_;replace rF:=row_set rF 3 (.slice uo (vdat R).length uc);replace hq:=hq.setCell (p:=⟨g,3,none⟩) hgl (.slice uo (vdat R).length uc);replace hO:=own_other (j:=3) (u:=.slice uo (vdat R).length uc) hO hg3
    replace hS:(w5.setCell ⟨g,3,none⟩ (.slice uo (vdat R).length uc)).cell? ⟨wk,0,none⟩=some (.slice ao d.length cap)∧(w5.setCell ⟨g,3,none⟩ (.slice uo (vdat R).length uc)).cell? ⟨g,1,none⟩=some (.int .i64 ty):=⟨by rw[cell_of_row _ wk 0 _ _ _ (keep hq hrow)];rfl,by rw[cell_of_row _ g 1 _ _ _ rF];rfl⟩
    refine hK _ _ hS ?_;simp only[Act.put,ZPa,ZPb,ZPc];clear hK
    generalize w5.setCell ⟨g,3,none⟩ (.slice uo (vdat R).length uc)=w6 at *
    refine wTy 17 ?v15 rfl ?y15 hS ?r15
    case y15=>
     intro w_ hS_;go_simp
     try with_reducible rfl
    simp only[Act.put,ZPa,ZPb,ZPc,ZPd,ZPe,ZPf];refine wTy 18 ?v16 rfl ?y16 hS ?r16
    case y16=>
     intro w_ hS_;go_simp
     try with_reducible rfl
    simp only[Act.put,ZPa,ZPb,ZPc,ZPd,ZPe,ZPf]
    refine wpAnyH_done (by kernel_rfl) ?_ _
    refine NoPanic.normal ?_
    cases hRc:R with
    |er e=>
     subst hRc
     have he:(e==0)=false:=by simpa using rv_er hR.out
     have hfin:Hid (whl d d.length 0 0 0=(pre,some (q,e))):=hide (by rw[hwh2.out,whl_value hlt hk hr2.out (by rw[←hqe.out];exact hR.out),←hqe.out];simp)
     have hJ2:=hJb _ _ _ hJ hq;have hrow2:=keep hq hrow
     simp only[vnum,vdat,vend,verr] at *
     clear hR hr2 hwh2 hO hq rF hS
     have c1:w6.cell? ⟨wk,1,none⟩=some (.int .i64 0):=by rw[cell_of_row w6 wk 1 _ _ _ hrow2];rfl
     have c2:w6.cell? ⟨wk,2,none⟩=some (.int .i64 0):=by rw[cell_of_row w6 wk 2 _ _ _ hrow2];rfl
     have f1:w6.frozen? ⟨wk,1,none⟩=false:=by simp[World.frozen?,hrow2]
     have f2:w6.frozen? ⟨wk,2,none⟩=false:=by simp[World.frozen?,hrow2]
     have c3:(w6.setCell ⟨wk,1,none⟩ (.int .i64 (q:Int))).cell? ⟨wk,2,none⟩=some (.int .i64 0):=by rw[World.cell?_setCell_other _ _ _ _ (by simp)];exact c2
     have f3:(w6.setCell ⟨wk,1,none⟩ (.int .i64 (q:Int))).frozen? ⟨wk,2,none⟩=false:=by rw[World.frozen?_setCell];exact f2
     go_wp2_with (fail)
     refine bodyPost_ret (results_none rfl _ _ _) rfl ?_;rw[hfin.out];exact⟨⟨_,rfl⟩,.inr (.inl ⟨q,e,w6,rfl,hJ2,rfl⟩)⟩
    |ok num dat m=>
     subst hRc;have hv:=rv_ok hR.out;rw[List.length_drop] at hv
     obtain⟨k2,hk2,hst⟩:=whl_step hlt hk hr2.out (by rw[←hqe.out];exact hR.out)
     rw[←hqe.out] at hst hk2
     have hst2:Hid (whl d d.length 0 0 0=((pre++[(p,(⟨no,ty,num,dat⟩:Fd))])++(whl d k2 (q+m) no (pre++[(p,(⟨no,ty,num,dat⟩:Fd))]).length).1,(whl d k2 (q+m) no (pre++[(p,(⟨no,ty,num,dat⟩:Fd))]).length).2)):=hide (by rw[hwh2.out,hst,List.length_append,List.length_singleton,List.append_assoc];rfl)
     simp only[vnum,vdat,vend,verr] at hO rF⊢
     replace rF:w6.heap[g]? =some (.cells #[.int .i64 no,.int .i64 ty,.int .u64 (num:Int),.slice uo dat.length uc] 118 (0,0)):=rF
     have hFk:Fok ⟨no,ty,num,dat⟩:=⟨hv.2.1,by have:=hv.2.2;simp only;omega,by simp only;omega,by simp only;omega⟩
     obtain⟨fn,tmps,assign,body,hy,hRd⟩:=hY pre (p,⟨no,ty,num,dat⟩) _ wr w6 hJ hq (own_down hO hb3) hlt hFk (by rw[←hple.out];exact hpl2)
     dsimp only at hy
     have hqm:q+m≤d.length:=by omega
     have hpm:p<q+m:=by rw[hqe.out];omega
     have hnl:pl+1=(pre++[(p,(⟨no,ty,num,dat⟩:Fd))]).length:=by rw[List.length_append,List.length_singleton,hple.out]
     have hlg:=lt_of_row rF;clear hst hR hr2 hwh2 hO hS hFk hv
     iterate 20 go_step
     refine(wpIn_wide (n:=3)).1 ?_
     gi_wp2_with (first|(refine wpListIn_load_want rfl 118 _ rfl g rfl 118 _ (0,0) _ rF Tryz.underlying118 rfl infoF ?_)|fail)
     refine hRd.mono ?_;clear hRd hy
     rintro e_ w7 (⟨rfl,hJ7,hk7⟩|⟨rfl,hJx7⟩)
     ·have rF7:=(hk7 g hgl hlg).trans rF
      have c7:w7.cell? ⟨g,0,none⟩=some (.int .i64 no):=by rw[cell_of_row _ g 0 _ _ _ rF7];rfl
      clear hk7 rF hq cb hrow hJ hB
      gi_wp2_with (fail)
      go_wp2_with (fail)
      have hbd:Below w7.heap.size w7 w7.drew:=below_drN (Below.refl _ _) 1;replace hJ7:=hJb _ _ _ hJ7 hbd
      have c8:w7.drew.cell? ⟨g,0,none⟩=some (.int .i64 no):=by rw[cell_of_row _ g 0 _ _ _ (keep hbd rF7)];rfl
      clear hbd c7 rF7;refine wp_region_noPanic ?_
      refine wp_region_held (S:=fun W=>W.cell? ⟨g,0,none⟩=some (.int .i64 no)) (by kernel_rfl) ?_
      change wpAnyH _ _ _ _ _ _ _ _ (World.drew _)
      generalize w7.drew=w8 at *
      refine wTy 0 ?v17 rfl ?y17 c8 ?r17
      case y17=>
       intro w_ hS_;go_simp
       try with_reducible rfl
      simp only[Act.put,ZPa,ZPc,ZPd,ZPe,ZPf];refine wTy 1 ?v18 rfl ?y18 c8 ?r18
      case y18=>
       intro w_ hS_;go_simp
       try with_reducible rfl
      simp only[Act.put,ZPa,ZPb,ZPc,ZPd,ZPe,ZPf];refine wTy 2 (.int .i64 no) rfl ?y19 c8 ?r19
      case y19=>
       intro w_ hS_;have c_:=hS_;go_simp
       try with_reducible rfl
      simp only[Act.put,ZPa,ZPb,ZPc,ZPd,ZPe,ZPf];refine wTy 3 ?v20 rfl ?y20 c8 ?r20
      case y20=>
       intro w_ hS_;go_simp
       try with_reducible rfl
      simp only[Act.put,ZPa,ZPb,ZPc,ZPd,ZPe,ZPf];refine wTy 4 ?v21 rfl ?y21 c8 ?r21
      case y21=>
       intro w_ hS_;go_simp
       try with_reducible rfl
      simp only[Act.put,ZPa,ZPb,ZPc,ZPd,ZPe,ZPf]
      refine wpAnyH_done (by kernel_rfl) ?_ _
      refine NoPanic.normal ?_
      have hpl3:0≤(pl:Int)+1∧(pl:Int)+1<100:=by omega
      go_wp2_with (fail)
      refine⟨⟨q+m,k2,no,pre++[(p,⟨no,ty,num,dat⟩)],hqm,by omega,hk2,hno2,hno1,by rw[Int.natCast_add],rfl,by rw[←hnl];go_num,hst2.out,hJ7⟩,?_⟩
      simp[intOf];omega
     ·gi_wp2_with (fail)
      go_wp2_with (fail)
      refine bodyPost_ret (results_none rfl _ _ _) rfl ?_;refine⟨⟨_,rfl⟩,.inr (.inr ⟨_,?_,hJx7⟩)⟩;rw[hst2.out];exact⟨_,rfl⟩
  ·have hfin:Hid (whl d d.length 0 0 0=(pre,none)):=hide (by rw[hwh,whl_end hlt];simp)
   have hd:decide ((p:Int)<(d.length:Int))=false:=by simp;omega
   clear hwh
   generalize pre.length=pl at *
   go_wp2_with (fail)
   go_end0;rw[hfin.out];exact⟨⟨_,rfl⟩,.inl ⟨rfl,hJ⟩⟩
end Go.Proofs.YtmmlkfkpblokiaaGreatDoor
namespace Go.Proofs.YtmmlkfkpblokiaaGreatDoor
open Go Go.RowKit Go.Sort
attribute [local go_sem] setCell_drewN alloc_drewN
open Go.Shelf
attribute [local go_sem] Oper.semAt_some
theorem wp_range_bound {P:Program} {g:Operand} {ps:Array Tmp} {assign body:Code} {Q:Exit→Act→World→Prop} {a:Act} {w:World} {gf:Nat} {r:Value} (hg:a.eval g=.func (.func gf) #[r] #[]) (eg:∀args w,(callFunc gf args).run P w=.ok (.enter gf args) w)
 (h:∀(fn:FuncId) (rec:LoopState→Option Code→Loop),rec=(fun st pe=>{state:=st,pending:=pe,fn,tmps:=a.tmps,params:=ps,assign,body,defers:=w.heap.size})→
  Calls P gf #[r,.func (.yield (w.heap.size+1)) #[] #[]] ((w.alloc (.deferred (some []))).alloc (.loop (rec .ready none))) fun e w'=>(∃v,e=.returned v)∧w'.heap[w.heap.size+1]? =some (.loop (rec .ready none))∧Q .normal {a with defers:={target:=.collected w.heap.size,args:=#[]}::a.defers} (w'.putObj (w.heap.size+1) (.loop (rec .exhausted none)))):
 (Code.rangeFunc g ps assign body).wp P Q a w:=by
 refine(wpIn_wide (n:=4)).1 (wpIn_rangeFunc (F:=Fence.wide) ?_);intro fn hfn;obtain⟨W1,hW1⟩:∃W1,(w.alloc (.deferred (some []))).alloc (.loop {state:=.ready,pending:=none,fn,tmps:=a.tmps,params:=ps,assign,body,defers:=w.heap.size})=W1:=⟨_,rfl⟩;refine⟨w.heap.size+1,[{target:=.collected w.heap.size,args:=#[]}],W1,{target:=.fn (.func gf) #[],args:=#[r,.func (.yield (w.heap.size+1)) #[] #[]]},W1,gf,#[r,.func (.yield (w.heap.size+1)) #[] #[]],W1,?_,?_,?_,?_,?_,?_⟩
 ·rw[←hW1];exact run_enterLoop_outer _ _ _ _ _
 ·simp only[resolve,hg]
  simp[go_sem]
 ·exact fun _ _=>trivial
 ·simp[invoke,go_sem,eg]
 ·exact fun _=>by decide
 ·rw[←hW1]
  refine callsIn_wide.2 ((h fn _ rfl).mono ?_)
  rintro e w3 ⟨⟨v,rfl⟩,hl,hq⟩
  exact⟨none,_,run_endLoop hl (by simp),hq⟩
theorem wpIn_of_value {F:Fence} {n:Nat} {P:Program} {o:Oper} {a:Act} {w:World} {K:Act→World→Prop} {Q:Exit→Act→World→Prop} {v:Value} {w':World} (h:o.wp P a w K Q) (hab:o.about P w a.eval=none) (hpl:∀c,o.op≠.defer c) (hr:(execOp a.eval o).run P w=.ok (.value v) w'):o.wpIn F n P a w K Q:=by
 refine⟨fun f hf=>(by rw[hab] at hf;cases hf),?_⟩
 rw[Oper.semAt_plain F _ _ hpl,hr,Oper.uponIn_value];unfold Oper.wp at h;rw[hr,Oper.upon_value] at h;exact h
theorem wpListIn_append_F {F:Fence} {n:Nat} {w:World} {ops:Array Oper} {rest:List Oper} {o:Oper} {a:Act} {Q:Exit→Act→World→Prop} (hgd:o.guard=none) (s x:Operand)
 (ho:o.op=.call {callee:=.builtin .append,args:=#[s,x],argTypes:=#[116,116]})
 (base:Nat) (v:Value) (us:List Value) (fs:List Fd) (hs:a.eval s=v) (L:Nat) (hI:Fts w base v us fs) (hL:∀k,v.ownBlock=some k→k<L) (hLi:∀i,i<us.length→∀k,(gv us i).ownBlock=some k→k<L) (hbL:base≤L)
 (u:Value) (f:Fd) (hu:Own w L u f.dat) (g:Nat) (hx:a.eval x=.slice (some ⟨g,0,none⟩) 1 1) (hnews:∀j x,(frow f u)[j]? =some x→w.cell? ((⟨g,0,none⟩:Addr).add j)=some x)
 (hlen:fs.length<2932031007317) (hbase:base≤w.heap.size)
 (h:∀v' w',Fts w' base v' (us++[u]) (fs++[f])→w.grownBy w' v.ownBlock→Nx w v v'→wpListIn F n Tryz.prog ops Q rest (a.put o.dst v') w'):wpListIn F n Tryz.prog ops Q (o::rest) a w:=by
 obtain⟨i0,hi,hz0,hz1,hz2⟩:=info48
 have hone:∀x∈frow f u,x.oneCell'=true:=by
  intro x hx;obtain⟨ao,cap,rfl⟩:=slen_own hu
  simp[frow] at hx
  rcases hx with rfl|rfl|rfl|rfl<;>rfl
 have hm:fs.length+1≤maxLen:=by unfold maxLen;omega
 obtain⟨v1,w1,hr,_,_,_⟩:=run_append_own (P:=Tryz.prog) w base 116 o.type 118 i0 (.agg #[.int .i64 0,.int .i64 0,.int .u64 0,nS]) 4 48 Tryz.underlying116 hi hz0 hz1 hz2 rfl (by decide) v fs.length (frs fs us) hI.1 ⟨g,0,none⟩ 1 1 (frow f u) rfl hnews hone hm (by omega) hbase
 refine wpListIn_plain hgd fun _ hK=>wpIn_of_value (v:=v1) (w':=w1) (wp_append_nx s x 116 ho base 118 i0 (.agg #[.int .i64 0,.int .i64 0,.int .u64 0,nS]) 4 48 Tryz.underlying116 hi hz0 hz1 hz2 rfl (by decide) v fs.length (frs fs us) hs hI.1 ⟨g,0,none⟩ 1 1 (frow f u) hx rfl hnews hone hm (by omega) hbase (fun v' w' h1 h2 h3=>hK _ _ (h v' w' (hI.snoc hL hLi hbL hu h1 h2 h3) h2 h3))) ?_ ?_ ?_
 ·simp[Oper.about,ho,resolve,Target.leads,Sem.run_pure]
 ·rw[ho];intro c hc;cases hc
 ·simp[execOp,ho,resolve,invoke,builtin,hs,hx,hr,Result.andThen]
theorem wpListIn_alloc {F:Fence} {n:Nat} {P:Program} {ops:Array Oper} {rest:List Oper} {o:Oper} {a:Act} {w:World} {Q:Exit→Act→World→Prop} (hgd:o.guard=none) (ty:TypeId) (ho:o.op=.alloc ty) (cs:Array Value)
 (hz:∀W,(Instr.alloc ty true (.tuple #[])).run P W=.ok (.pointer (some ⟨W.heap.size,0,none⟩)) (W.alloc (.cells cs ty)))
 (h:wpListIn F n P ops Q rest (a.put o.dst (.pointer (some ⟨w.heap.size,0,none⟩))) (w.alloc (.cells cs ty))):wpListIn F n P ops Q (o::rest) a w:=by
 refine wpListIn_plain hgd fun K hK=>⟨fun f hf=>(by simp[Oper.about,ho] at hf),?_⟩
 rw[Oper.semAt_plain F _ _ (by rw[ho];intro c hc;cases hc)]
 unfold execOp;simp only[ho,Sem.run_bind,hz,Result.andThen_ok,Sem.run_pure];exact hK _ _ h
theorem wpListIn_store_row {F:Fence} {n:Nat} {P:Program} {ops:Array Oper} {rest:List Oper} {o:Oper} {a:Act} {w:World} {Q:Exit→Act→World→Prop} (hgd:o.guard=none) (ty:TypeId) (x y:Operand) (ho:o.op=.store ty x y)
 (g:Nat) (cells:Array Value) (hx:a.eval x=.pointer (some ⟨g,0,none⟩)) (hy:a.eval y=.agg cells)
 (t:TypeId) (old:Array Value) (hr:w.heap[g]? =some (.cells old t (0,0))) (hi:(P.info? ty).map (·.size)=some cells.size)
 (hold:old.size=cells.size) (h1:cells.all (·.oneCell')=true)
 (h:wpListIn F n P ops Q rest (a.put o.dst undef) (w.setRow g cells)):wpListIn F n P ops Q (o::rest) a w:=by
 refine wpListIn_plain hgd fun K hK=>⟨fun f hf=>(by simp[Oper.about,ho] at hf),?_⟩
 rw[Oper.semAt_plain F _ _ (by rw[ho];intro c hc;cases hc)]
 unfold execOp;simp only[ho,hx,hy,Instr.storeAt,Instr.sureAddr,Sem.run_bind,Sem.run_pure,Result.andThen_ok,run_storeVar_row w g t ty old cells hr hi hold h1];exact hK _ _ h
theorem whl_er {d:List B}:∀(k p:Nat) (last:Int) (c:Nat) {q:Nat} {e:Int},(whl d k p last c).2=some (q,e)→e≠0
 |0,_,_,_,_,_,h=>by simp[whl] at h
 |k+1,p,last,c,q,e,h=>by
  by_cases hlt:p<d.length
  ·rw[whl,if_pos hlt] at h
   cases hr:rh (d.drop p) last c with
   |er e'=>
    rw[hr] at h
    simp at h
    rw[←h.2];exact rh_er hr
   |ok no ty n=>
    rw[hr] at h;simp only at h
    cases hv:rv (d.drop (p+n)) ty with
    |er e'=>
     rw[hv] at h
     simp at h
     rw[←h.2];exact rv_er hv
    |ok num dat m=>
     rw[hv] at h;exact whl_er k _ _ _ h
  ·rw[whl,if_neg hlt] at h
   simp at h
def dwh (d:List B):List (Nat×Fd)×Option (Nat×Int):=if 4194304<d.length then([],some (0,2)) else whl d d.length 0 0 0
def dfs (x:List (Nat×Fd)×Option (Nat×Int)):List Fd:=match x.2 with
 |none=>x.1.map (·.2)
 |some _=>[]
def dpl (x:List (Nat×Fd)×Option (Nat×Int)):Int:=match x.2 with
 |none=>0
 |some (p,_)=>(p:Int)
def der (x:List (Nat×Fd)×Option (Nat×Int)):Int:=match x.2 with
 |none=>0
 |some (_,e)=>e
theorem Fts.down {W:World} {b c:Nat} {v:Value} {us:List Value} {fs:List Fd} (h:Fts W b v us fs) (hc:c≤b):Fts W c v us fs:=by
 obtain⟨h1,h2,h3,h4⟩:=h
 refine⟨?_,h2,fun i hi=>own_down (h3 i hi) hc,h4⟩
 obtain⟨q1,q2|⟨g,cap,cur,q2,hb,q3⟩⟩:=h1
 ·exact⟨q1,.inl q2⟩
 ·exact⟨q1,.inr ⟨g,cap,cur,q2,by omega,q3⟩⟩
theorem Own.move {W V:World} {b:Nat} {v:Value} {d:List B} (h:Own W b v d) (hm:∀g o,b≤g→W.heap[g]? =some o→V.heap[g]? =some o):Own V b v d:=by
 obtain⟨q1,q2|⟨g,cap,cur,q2,hb,q3,q4⟩⟩:=h
 ·exact⟨q1,.inl q2⟩
 ·exact⟨q1,.inr ⟨g,cap,cur,q2,hb,hm _ _ hb q3,q4⟩⟩
theorem Fts.move {W V:World} {b:Nat} {v:Value} {us:List Value} {fs:List Fd} (h:Fts W b v us fs) (hm:∀g o,b≤g→W.heap[g]? =some o→V.heap[g]? =some o):Fts V b v us fs:=by
 obtain⟨h1,h2,h3,h4⟩:=h
 refine⟨?_,h2,fun i hi=>(h3 i hi).move hm,h4⟩
 obtain⟨q1,q2|⟨g,cap,cur,q2,hb,q3,q4⟩⟩:=h1
 ·exact⟨q1,.inl q2⟩
 ·exact⟨q1,.inr ⟨g,cap,cur,q2,hb,hm _ _ hb q3,q4⟩⟩
theorem results_tmp3b {fn:Func} {t u v:Tmp} (h:fn.results=#[.tmp t,.tmp u,.tmp v]) (tmps:Array Value) (P:Program) (w:World):(results fn tmps).run P w=.ok (.tuple #[tmps.getD t undef,tmps.getD u undef,tmps.getD v undef]) w:=by
 simp[results,h]
def DecJ (w:World) (v:Value) (r:Loop) (pre:List (Nat×Fd)) (A:World):Prop:=
 A.heap[w.heap.size+3]? =some (.loop r)∧A.heap[w.heap.size+2]? =some (.deferred (some []))∧A.heap[w.heap.size+1]? =some (.cells (wkr v) 165 (0,0))∧
 (∃u us,A.heap[w.heap.size]? =some (.cells #[u] 116 (0,0))∧Fts A (w.heap.size+4) u us (pre.map (·.2)))∧Below w.heap.size w A
theorem DecJ.keep {w A C:World} {v:Value} {r:Loop} {pre:List (Nat×Fd)} (h:DecJ w v r pre A) (hb:Below A.heap.size A C):DecJ w v r pre C:=by
 obtain⟨h1,h2,h3,⟨u,us,h4,h5⟩,h6⟩:=h;exact⟨Go.Proofs.YtmmlkfkpblokiaaGreatDoor.keep hb h1,Go.Proofs.YtmmlkfkpblokiaaGreatDoor.keep hb h2,Go.Proofs.YtmmlkfkpblokiaaGreatDoor.keep hb h3,⟨u,us,Go.Proofs.YtmmlkfkpblokiaaGreatDoor.keep hb h4,h5.keep hb⟩,Below.after h6 hb⟩
theorem a_decode (d:List B) (w:World) (v:Value) (hB:BysB w v d) (hcap:∀a l c,v=.slice a l c→l≤c):Calls Tryz.prog 57 #[v] w fun e w'=>∃u us,e=.returned (.tuple #[u,.int .i64 (dpl (dwh d)),.int .i64 (der (dwh d))])∧Fts w' w.heap.size u us (dfs (dwh d))∧Below w.heap.size w w':=by
 have hdl:=hB.2.1;obtain⟨ao,cap,rfl⟩:=hB.form;refine(callsIn_wide (n:=4)).1 (callsIn_of_wp_marks Tryz.func57 rfl trivial ?_);refine wpIn_wide.2 ?_;simp only[Tryz.ntmps57,List.size_toArray,List.length_cons,List.length_nil,Nat.reduceAdd,Nat.reduceSub,Array.replicate_succ,Array.replicate_zero,List.push_toArray,List.append_toArray,List.nil_append,List.cons_append]
 by_cases h1:4194304<d.length
 ·have hdw:dwh d=([],some (0,2)):=if_pos h1
  have d1:decide ((d.length:Int)>4194304)=true:=by simp;omega
  rw[hdw];simp only[dpl,der,dfs];clear hdw
  go_wp2_with (fail)
  exact⟨_,results_tmp3b rfl _ _ _,_,[],rfl,fts_nil _ _,Below.refl _ _⟩
 ·have hdw:dwh d=whl d d.length 0 0 0:=if_neg h1
  have d1:decide ((d.length:Int)>4194304)=false:=by simp;omega
  rw[hdw];clear hdw
  go_wp2_with (fail)
  have z0:=hp2_0 w (.cells #[nS] 116) (.cells #[.slice ao d.length cap,.int .i64 0,.int .i64 0] 165);have z1:=hp2_1 w (.cells #[nS] 116) (.cells #[.slice ao d.length cap,.int .i64 0,.int .i64 0] 165)
  have hw0:Below w.heap.size w ((w.alloc (.cells #[nS] 116)).alloc (.cells #[.slice ao d.length cap,.int .i64 0,.int .i64 0] 165)):=((Below.refl _ _).alloc (Nat.le_refl _) _).alloc (by simp) _
  have hsz:((w.alloc (.cells #[nS] 116)).alloc (.cells #[.slice ao d.length cap,.int .i64 0,.int .i64 0] 165)).heap.size=w.heap.size+2:=by simp
  generalize (w.alloc (.cells #[nS] 116)).alloc (.cells #[.slice ao d.length cap,.int .i64 0,.int .i64 0] 165)=W0 at *
  refine wp_range_bound (gf:=83) rfl (enters_of Tryz.func83 (by kernel_rfl) rfl) ?_
  intro fn rec hrec
  rw[hsz] at hrec⊢
  have y0:=hp2_0 W0 (.deferred (some [])) (.loop (rec .ready none));have y1:=hp2_1 W0 (.deferred (some [])) (.loop (rec .ready none))
  have hb0:Below W0.heap.size W0 ((W0.alloc (.deferred (some []))).alloc (.loop (rec .ready none))):=((Below.refl _ _).alloc (Nat.le_refl _) _).alloc (by simp) _
  rw[hsz] at y0 y1;have h0:DecJ w (.slice ao d.length cap) (rec .ready none) [] ((W0.alloc (.deferred (some []))).alloc (.loop (rec .ready none))):=⟨y1,y0,keep hb0 z1,⟨_,[],keep hb0 z0,fts_nil _ _⟩,Below.after hw0 hb0⟩
  generalize (W0.alloc (.deferred (some []))).alloc (.loop (rec .ready none))=W1 at *
  clear y0 y1 hb0 z0 z1 hw0
  refine(a_fields d (.slice ao d.length cap) (w.heap.size+1) (w.heap.size+2+1) (DecJ w (.slice ao d.length cap) (rec .ready none)) (fun _ _=>False) hcap (fun pre A C hA hb=>hA.keep hb) (fun pre A hA=>⟨hA.2.2.1,hB.keep hA.2.2.2.2⟩) ?_ W1 h0 (by omega)).mono ?_
  ·clear h0
   rintro pre x u A C hA hb hO hlx hFk hpl
   obtain⟨uo,uc,rfl⟩:=slen_own hO;have hAs:w.heap.size+3<A.heap.size:=lt_of_row hA.1;obtain⟨a1,a2,a3,⟨v0,us,a4,a5⟩,a6⟩:=hA;have ahi:=a5.high;have g1:=keep hb a1
   have hy:=run_yield (P:=Tryz.prog) (args:=#[.int .i64 (x.1:Int),.agg #[.int .i64 x.2.no,.int .i64 x.2.ty,.int .u64 (x.2.num:Int),.slice uo x.2.dat.length uc]]) g1 (by rw[hrec];rfl)
   rw[hrec] at hy;refine⟨fn,_,_,_,hy,roundIn_of_wpIn trivial ?_⟩;have r0:=hp1_0 C (.cells #[.int .i64 0,.int .i64 0,.int .u64 0,nS] 118)
   have hone:(#[.int .i64 x.2.no,.int .i64 x.2.ty,.int .u64 (x.2.num:Int),.slice uo x.2.dat.length uc]:Array Value).all (·.oneCell')=true:=by simp[Value.oneCell']
   have hbx:Below C.heap.size C ((C.alloc (.cells #[.int .i64 0,.int .i64 0,.int .u64 0,nS] 118)).setRow C.heap.size #[.int .i64 x.2.no,.int .i64 x.2.ty,.int .u64 (x.2.num:Int),.slice uo x.2.dat.length uc]):=below_setRow ((Below.refl _ _).alloc (Nat.le_refl _) _) (Nat.le_refl _) _;have rB:=setRow_heap _ C.heap.size _ #[.int .i64 x.2.no,.int .i64 x.2.ty,.int .u64 (x.2.num:Int),.slice uo x.2.dat.length uc] _ _ r0;clear hy
   gi_wp2_with (first|(refine wpListIn_alloc rfl 118 rfl #[.int .i64 0,.int .i64 0,.int .u64 0,nS] zFd ?_)|(refine wpListIn_store_row rfl 118 _ _ rfl C.heap.size #[.int .i64 x.2.no,.int .i64 x.2.ty,.int .u64 (x.2.num:Int),.slice uo x.2.dat.length uc] rfl rfl 118 _ r0 infoF rfl hone ?_)|fail)
   have hsC:C.heap.size<((C.alloc (.cells #[.int .i64 0,.int .i64 0,.int .u64 0,nS] 118)).setRow C.heap.size #[.int .i64 x.2.no,.int .i64 x.2.ty,.int .u64 (x.2.num:Int),.slice uo x.2.dat.length uc]).heap.size:=lt_of_row rB
   generalize (C.alloc (.cells #[.int .i64 0,.int .i64 0,.int .u64 0,nS] 118)).setRow C.heap.size #[.int .i64 x.2.no,.int .i64 x.2.ty,.int .u64 (x.2.num:Int),.slice uo x.2.dat.length uc]=C1 at *
   clear r0 hone;have hbA:=Below.after hb hbx;have e1:=keep hbA a1
   refine⟨_,run_beginRound e1 (by rw[hrec]),?_⟩
   have hsA:=hb.size
   have hoth:∀g,g≠w.heap.size+3→(C1.putObj (w.heap.size+3) (.loop {rec .ready none with state:=.busy})).heap[g]? =C1.heap[g]? :=fun g hg=>World.putObj_heap_other hg
   have e1':(C1.putObj (w.heap.size+3) (.loop {rec .ready none with state:=.busy})).heap[w.heap.size+3]? =some (.loop {rec .ready none with state:=.busy}):=World.putObj_heap_same (lt_of_row e1)
   have e2:=(hoth (w.heap.size+2) (by omega)).trans (keep hbA a2)
   have e3:=(hoth (w.heap.size+1) (by omega)).trans (keep hbA a3)
   have e4:=(hoth w.heap.size (by omega)).trans (keep hbA a4)
   have e5:Fts (C1.putObj (w.heap.size+3) (.loop {rec .ready none with state:=.busy})) (w.heap.size+4) v0 us (pre.map (·.2)):=(a5.keep hbA).move (fun g o hg h=>(hoth g (by omega)).trans h)
   have rB2:=(hoth C.heap.size (by omega)).trans rB
   have hO2:Own (C1.putObj (w.heap.size+3) (.loop {rec .ready none with state:=.busy})) A.heap.size (.slice uo x.2.dat.length uc) x.2.dat:=(hO.keep hbx).move (fun g o hg h=>(hoth g (by omega)).trans h)
   have e6:Below w.heap.size w (C1.putObj (w.heap.size+3) (.loop {rec .ready none with state:=.busy})):=(Below.after a6 hbA).grown (grownBy_putObj' _ _ _) (by have:=a6.size;have:=hbA.size;omega) (fun k e=>by cases e;omega)
   have hszC:(C1.putObj (w.heap.size+3) (.loop {rec .ready none with state:=.busy})).heap.size=C1.heap.size:=World.putObj_size
   have hfr:Hid (∀g,A.heap.size≤g→g<C.heap.size→(C1.putObj (w.heap.size+3) (.loop {rec .ready none with state:=.busy})).heap[g]? =C.heap[g]?):=hide (fun g hg1 hg2=>(hoth g (by omega)).trans (hbx.block g hg2))
   generalize C1.putObj (w.heap.size+3) (.loop {rec .ready none with state:=.busy})=C2 at *
   clear hoth rB hbx hbA e1 a1 a2 a3 a4 a5 a6 g1 hO hb;rw[←hszC] at hsC;clear hszC
   have hfs2:Hid ((pre++[x]).map (·.2)=pre.map (·.2)++[x.2]):=hide (by simp)
   have hfl:(pre.map (·.2)).length<64:=by rw[List.length_map];exact hpl
   generalize pre.map (·.2)=fs at *
   obtain⟨so,sc,rfl⟩:=slen_own e5.1
   have c5:C2.cell? ⟨w.heap.size,0,none⟩=some (.slice so fs.length sc):=by rw[cell_of_row _ _ 0 _ _ _ e4];rfl
   gi_wp2_with (first|(refine wpListIn_load_want rfl 118 _ rfl C.heap.size rfl 118 _ (0,0) _ rB2 Tryz.underlying118 rfl infoF ?_)|(gi_at_builtin;suffices h9:True∧_ from h9.2)|fail)
   refine⟨trivial,?_⟩;have hbn:Below C2.heap.size C2 (C2.alloc (.cells #[.int .i64 x.2.no,.int .i64 x.2.ty,.int .u64 (x.2.num:Int),.slice uo x.2.dat.length uc] 118)):=(Below.refl _ _).alloc (Nat.le_refl _) _;have e5n:=e5.keep hbn;have hown:=own_high_row e5.1
   refine wpListIn_append_F rfl (.tmp 17) (.tmp 19) rfl (w.heap.size+4) _ us fs rfl A.heap.size e5n ahi.1 ahi.2 (by omega) _ x.2 (hO2.keep hbn) C2.heap.size rfl (new_cells4 C2 #[.int .i64 x.2.no,.int .i64 x.2.ty,.int .u64 (x.2.num:Int),.slice uo x.2.dat.length uc] 118) (by omega) (by rw[size_alloc1];omega) ?_
   intro v4 w4 hI4 hgr hnx
   have hgk:∀k,(Value.slice so fs.length sc).ownBlock=some k→w.heap.size+4≤k∧k<A.heap.size:=fun k e=>⟨(hown k e).1,ahi.1 k e⟩
   have hoth:∀g,g<C2.heap.size→(g<w.heap.size+4∨A.heap.size≤g)→w4.heap[g]? =C2.heap[g]? :=fun g hg hh=>(hgr.block g (by rw[size_alloc1];omega) (fun e=>by have:=hgk g e.symm;omega)).trans (hbn.block g hg)
   have hw4:Below w.heap.size w w4:=(Below.after e6 hbn).grown hgr (by rw[size_alloc1];have:=e6.size;omega) (fun k e=>by have:=hgk k e;omega)
   have q1:=(hoth (w.heap.size+3) (by omega) (by omega)).trans e1'
   have q2:=(hoth (w.heap.size+2) (by omega) (by omega)).trans e2
   have q3:=(hoth (w.heap.size+1) (by omega) (by omega)).trans e3
   have q4:=(hoth w.heap.size (by omega) (by omega)).trans e4
   have hfr2:Hid (∀g,A.heap.size≤g→g<C.heap.size→w4.heap[g]? =C.heap[g]?):=hide (fun g hg1 hg2=>(hoth g (by omega) (.inr hg1)).trans (hfr.out g hg1 hg2))
   clear hoth hfr e1' e2 e3 e4 e5 e5n e6 hbn hO2 rB2 c5 hgr hnx hown hgk;obtain⟨ao4,ac4,hv4⟩:=slen_own hI4.1
   have c6:w4.cell? ⟨w.heap.size,0,none⟩=some (.slice so fs.length sc):=by rw[cell_of_row _ _ 0 _ _ _ q4];rfl
   have f6:w4.frozen? ⟨w.heap.size,0,none⟩=false:=by simp[World.frozen?,q4]
   generalize (fs++[x.2]).length=fl at hv4;subst hv4
   gi_wp2_with (fail)
   have p1:=heap_other (g:=w.heap.size) (j:=0) (v:=.slice ao4 fl ac4) q1 (by omega)
   have p2:=heap_other (g:=w.heap.size) (j:=0) (v:=.slice ao4 fl ac4) q2 (by omega)
   have p3:=heap_other (g:=w.heap.size) (j:=0) (v:=.slice ao4 fl ac4) q3 (by omega)
   have p4:=row_set q4 0 (.slice ao4 fl ac4)
   have p5:Fts (w4.setCell ⟨w.heap.size,0,none⟩ (.slice ao4 fl ac4)) (w.heap.size+4) (.slice ao4 fl ac4) (us++[.slice uo x.2.dat.length uc]) (fs++[x.2]):=hI4.move (fun g o hg h=>heap_other h (by omega))
   have p6:=hw4.setCell (p:=⟨w.heap.size,0,none⟩) (Nat.le_refl _) (.slice ao4 fl ac4)
   have p7:∀g,A.heap.size≤g→g<C.heap.size→(w4.setCell ⟨w.heap.size,0,none⟩ (.slice ao4 fl ac4)).heap[g]? =C.heap[g]? :=fun g hg1 hg2=>(heap_setCell_other w4 ⟨w.heap.size,0,none⟩ g _ (by show g≠w.heap.size;omega)).trans (hfr2.out g hg1 hg2)
   generalize w4.setCell ⟨w.heap.size,0,none⟩ (.slice ao4 fl ac4)=w5 at *
   refine⟨_,_,run_endRound none p1,.inl ⟨rfl,⟨?_,?_,?_,⟨.slice ao4 fl ac4,us++[.slice uo x.2.dat.length uc],?_,?_⟩,?_⟩,?_⟩⟩
   ·rw[World.putObj_heap_same (lt_of_row p1)];simp[hrec]
   ·exact(World.putObj_heap_other (by omega)).trans p2
   ·exact(World.putObj_heap_other (by omega)).trans p3
   ·exact(World.putObj_heap_other (by omega)).trans p4
   ·rw[hfs2.out];exact p5.move (fun g o hg h=>(World.putObj_heap_other (by omega)).trans h)
   ·exact p6.grown (grownBy_putObj' _ _ _) p6.size (fun k e=>by cases e;omega)
   ·exact fun g hg1 hg2=>(World.putObj_heap_other (by omega)).trans (p7 g hg1 hg2)
  ·clear h0
   rintro e w2 ⟨⟨r,rfl⟩,(⟨hn,hJ⟩|⟨p,e0,W,hs,hJ,rfl⟩|⟨_,_,hF⟩)⟩
   ·refine⟨⟨_,rfl⟩,hJ.1,?_⟩
    obtain⟨j1,j2,j3,⟨u,us,j4,j5⟩,j6⟩:=hJ
    have hoth:∀g,g≠w.heap.size+3→(w2.putObj (w.heap.size+2+1) (.loop (rec .exhausted none))).heap[g]? =w2.heap[g]? :=fun g hg=>World.putObj_heap_other hg
    have k2:=(hoth (w.heap.size+2) (by omega)).trans j2
    have k3:=(hoth (w.heap.size+1) (by omega)).trans j3
    have k4:=(hoth w.heap.size (by omega)).trans j4
    have k5:Fts (w2.putObj (w.heap.size+2+1) (.loop (rec .exhausted none))) (w.heap.size+4) u us _:=j5.move (fun g o hg h=>(hoth g (by omega)).trans h)
    have k6:=j6.grown (grownBy_putObj' w2 (w.heap.size+2+1) (.loop (rec .exhausted none))) j6.size (fun k e=>by cases e;omega)
    clear hoth j1 j2 j3 j4 j5 j6
    generalize w2.putObj (w.heap.size+2+1) (.loop (rec .exhausted none))=w3 at *
    obtain⟨so,sc,rfl⟩:=slen_own k5.1
    generalize hfl:(List.map (·.2) (whl d d.length 0 0 0).1).length=fl at *
    replace hfl:=hide hfl
    have c2:w3.cell? ⟨w.heap.size+1,2,none⟩=some (.int .i64 0):=by rw[cell_of_row _ _ 2 _ _ _ k3];rfl
    have c4:w3.cell? ⟨w.heap.size,0,none⟩=some (.slice so fl sc):=by rw[cell_of_row _ _ 0 _ _ _ k4];rfl
    go_wp2_with (fail)
    refine⟨by simp,.inl ⟨_,_,rfl,run_takeDeferred k2,?_⟩⟩
    refine⟨_,results_tmp3b rfl _ _ _,.slice so fl sc,?_,⟨us,?_⟩,?_⟩
    ·simp[dpl,der,hn]
    ·have hdf:dfs (whl d d.length 0 0 0)=(whl d d.length 0 0 0).1.map (·.2):=by simp[dfs,hn]
     rw[hdf]
     exact(k5.move (fun g o hg h=>(World.putObj_heap_other (by omega)).trans h)).down (by omega)
    ·exact k6.grown (grownBy_putObj' _ _ _) k6.size (fun k e=>by cases e;omega)
   ·refine⟨⟨_,rfl⟩,?_,?_⟩
    ·exact heap_other (heap_other hJ.1 (by omega)) (by omega)
    obtain⟨j1,j2,j3,⟨u,us,j4,j5⟩,j6⟩:=hJ
    have he:(e0==0)=false:=by simpa using whl_er _ _ _ _ hs
    have hoth:∀g,g≠w.heap.size+3→(((W.setCell ⟨w.heap.size+1,1,none⟩ (.int .i64 (p:Int))).setCell ⟨w.heap.size+1,2,none⟩ (.int .i64 e0)).putObj (w.heap.size+2+1) (.loop (rec .exhausted none))).heap[g]? =((W.setCell ⟨w.heap.size+1,1,none⟩ (.int .i64 (p:Int))).setCell ⟨w.heap.size+1,2,none⟩ (.int .i64 e0)).heap[g]? :=fun g hg=>World.putObj_heap_other hg
    have k2:=(hoth (w.heap.size+2) (by omega)).trans (heap_other (heap_other j2 (by omega)) (by omega))
    have k3:=(hoth (w.heap.size+1) (by omega)).trans (row_set (row_set j3 1 (.int .i64 (p:Int))) 2 (.int .i64 e0))
    have k6:=((j6.setCell (p:=⟨w.heap.size+1,1,none⟩) (Nat.le_succ _) (.int .i64 (p:Int))).setCell (p:=⟨w.heap.size+1,2,none⟩) (Nat.le_succ _) (.int .i64 e0))
    replace k6:=k6.grown (grownBy_putObj' _ (w.heap.size+2+1) (.loop (rec .exhausted none))) k6.size (fun k e=>by cases e;omega)
    clear hoth j1 j2 j3 j4 j5 j6
    generalize ((W.setCell ⟨w.heap.size+1,1,none⟩ (.int .i64 (p:Int))).setCell ⟨w.heap.size+1,2,none⟩ (.int .i64 e0)).putObj (w.heap.size+2+1) (.loop (rec .exhausted none))=w3 at *
    have c1:w3.cell? ⟨w.heap.size+1,1,none⟩=some (.int .i64 (p:Int)):=by rw[cell_of_row _ _ 1 _ _ _ k3];rfl
    have c2:w3.cell? ⟨w.heap.size+1,2,none⟩=some (.int .i64 e0):=by rw[cell_of_row _ _ 2 _ _ _ k3];rfl
    go_wp2_with (fail)
    have hbd:Below w3.heap.size w3 w3.drew:=below_drN (Below.refl _ _) 1
    have hS:w3.drew.cell? ⟨w.heap.size+1,1,none⟩=some (.int .i64 (p:Int))∧w3.drew.cell? ⟨w.heap.size+1,2,none⟩=some (.int .i64 e0):=⟨by rw[cell_of_row _ _ 1 _ _ _ (keep hbd k3)];rfl,by rw[cell_of_row _ _ 2 _ _ _ (keep hbd k3)];rfl⟩
    replace k2:=keep hbd k2;replace k6:=Below.after k6 hbd;clear hbd k3 c1 c2;refine wp_region_noPanic ?_
    refine wp_region_held (S:=fun W=>W.cell? ⟨w.heap.size+1,1,none⟩=some (.int .i64 (p:Int))∧W.cell? ⟨w.heap.size+1,2,none⟩=some (.int .i64 e0)) (by kernel_rfl) ?_
    change wpAnyH _ _ _ _ _ _ _ _ (World.drew _)
    generalize w3.drew=w4 at *
    refine wTy 0 ?v1 rfl ?y1 hS ?r1
    case y1=>
     intro w_ hS_;go_simp
     try with_reducible rfl
    simp only[Act.put,ZPa,ZPc,ZPd,ZPe,ZPf];refine wTy 1 (.int .i64 (p:Int)) rfl ?y2 hS ?r2
    case y2=>
     intro w_ hS_;have c_:=hS_.1;go_simp
     try with_reducible rfl
    simp only[Act.put,ZPa,ZPb,ZPc,ZPd,ZPe,ZPf];refine wTy 2 ?v3 rfl ?y3 hS ?r3
    case y3=>
     intro w_ hS_;go_simp
     try with_reducible rfl
    simp only[Act.put,ZPa,ZPb,ZPc,ZPd,ZPe,ZPf];refine wTy 3 (.int .i64 e0) rfl ?y4 hS ?r4
    case y4=>
     intro w_ hS_;have c_:=hS_.2;go_simp
     try with_reducible rfl
    simp only[Act.put,ZPa,ZPb,ZPc,ZPd,ZPe,ZPf];refine wTy 4 ?v5 rfl ?y5 hS ?r5
    case y5=>
     intro w_ hS_;go_simp
     try with_reducible rfl
    simp only[Act.put,ZPa,ZPb,ZPc,ZPd,ZPe,ZPf];refine wTy 5 ?v6 rfl ?y6 hS ?r6
    case y6=>
     intro w_ hS_;go_simp
     try with_reducible rfl
    simp only[Act.put,ZPa,ZPb,ZPc,ZPd,ZPe,ZPf];refine wTy 6 ?v7 rfl ?y7 hS ?r7
    case y7=>
     intro w_ hS_;go_simp
     try with_reducible rfl
    simp only[Act.put,ZPa,ZPb,ZPc,ZPd,ZPe,ZPf]
    refine wpAnyH_done (by kernel_rfl) ?_ _
    refine NoPanic.normal ?_
    go_wp2_with (fail)
    refine⟨by simp,.inl ⟨_,_,rfl,run_takeDeferred k2,?_⟩⟩
    refine⟨_,results_tmp3b rfl _ _ _,nS,[],?_,?_,?_⟩
    ·simp[dpl,der,hs]
    ·have hdf:dfs (whl d d.length 0 0 0)=[]:=by simp[dfs,hs]
     rw[hdf]
     exact fts_nil _ _
    ·exact k6.grown (grownBy_putObj' _ _ _) k6.size (fun k e=>by cases e;omega)
   ·exact hF.elim
end Go.Proofs.YtmmlkfkpblokiaaGreatDoor
