import Derived.Test.YtmmlkfkpblokiaaGreatDoorQzUb
set_option maxRecDepth 100000
set_option maxHeartbeats 16000000
namespace Go.Proofs.YtmmlkfkpblokiaaGreatDoor
open Go Go.RowKit Go.Sort
attribute [local go_sem] setCell_drewN alloc_drewN
theorem wpQuiet_load_mid {P:Program} {C:World→Prop} {ops:Array Oper} {Q:Act→Prop} {a:Act} {o:Oper} {rest:List Oper} (hw:Region.wanted o (yielded ops a.tmps)=true) (ty:TypeId) (x:Operand) (ho:o.op=.load ty x)
 (b off:Nat) (hx:a.eval x=.pointer (some ⟨b,off,none⟩)) (cs:List Value) (d:TypeDesc) (hg:∀w,C w→w.rangeAt b off cs)
 (hu:P.underlying ty=some d) (hd:d.isRow=true) (hi:(P.info? ty).map (·.size)=some cs.length)
 (h:wpQuiet P ops C Q rest (a.put o.dst (.agg cs.toArray))):wpQuiet P ops C Q (o::rest) a:=by
 refine BigFrame.wpQuiet_want hw fun K hK=>⟨.agg cs.toArray,fun w hw=>?_,hK _ h⟩
 unfold Oper.quietAt execOp;simp only[ho,hx,Instr.loadAt,Instr.sureAddr,Sem.run_bind,Sem.run_pure,Result.andThen_ok,run_loadVar_mid w b off ty cs d (hg w hw) hu hd hi];exact⟨rfl,rfl⟩
theorem wpQuiet_load_sl {C:World→Prop} {ops:Array Oper} {Q:Act→Prop} {a:Act} {o:Oper} {rest:List Oper} (hw:Region.wanted o (yielded ops a.tmps)=true) (x:Operand) (ho:o.op=.load 88 x)
 (b off:Nat) (hx:a.eval x=.pointer (some ⟨b,off,none⟩)) (c0 c1 c2 c3 c4:Value) (hg:∀w,C w→w.rangeAt b off [c0,c1,c2,c3,c4])
 (h:wpQuiet Tryz.prog ops C Q rest (a.put o.dst (.agg #[c0,c1,c2,c3,c4]))):wpQuiet Tryz.prog ops C Q (o::rest) a:=
 wpQuiet_load_mid hw 88 x ho b off hx [c0,c1,c2,c3,c4] _ hg Tryz.underlying88 rfl infoS h
def lfL:List Slt→Int→Int→Int→Int
 |[],_,_,room=>room
 | .mk no k l m sub::ts,prev,deep,room=>if room<0 then room else
  if no<1∨536870911<no∨no≤prev∨fitN k (l:Int) (m:Int) sub.length=false then-1 else
  lfL ts no deep (if(k=8∨k=9)∧0≤room-1 then(if 16<sub.length∨6<deep+1 then-1 else lfL sub 0 (deep+1) (room-1)) else room-1)
def lft (ts:List Slt) (deep room:Int):Int:=if 16<ts.length∨6<deep then-1 else lfL ts 0 deep room
def nst (t:Slt):Prop:=t.kind=8∨t.kind=9
instance (t:Slt):Decidable (nst t):=by unfold nst;infer_instance
def sfit (t:Slt):Bool:=fitN t.kind (t.least:Int) (t.most:Int) t.sub.length
theorem lfL_cons (t:Slt) (ts:List Slt) (prev deep room:Int):lfL (t::ts) prev deep room=if room<0 then room else
 if t.no<1∨536870911<t.no∨t.no≤prev∨sfit t=false then-1 else
 lfL ts t.no deep (if nst t∧0≤room-1 then lft t.sub (deep+1) (room-1) else room-1):=by
 cases t
 rw[lfL];rfl
theorem lfL_neg (ts:List Slt) (prev deep room:Int) (h:room<0):lfL ts prev deep room=room:=by
 cases ts with
 |nil=>rw[lfL]
 |cons t ts=>rw[lfL_cons,if_pos h]
theorem lfL_le:∀(ts:List Slt) (prev deep room:Int),-1≤room→lfL ts prev deep room≤room∧-1≤lfL ts prev deep room
 |[],_,_,room,h=>by rw[lfL];exact⟨Int.le_refl _,h⟩
 | .mk no k l m sub::ts,prev,deep,room,h=>by
  rw[lfL]
  split
  ·exact⟨Int.le_refl _,h⟩
  ·split
   ·exact⟨h,Int.le_refl _⟩
   ·have h1:=lfL_le sub 0 (deep+1) (room-1) (by omega)
    have key:∀r,-1≤r→r≤room→lfL ts no deep r≤room∧-1≤lfL ts no deep r:=fun r q1 q2=>by
     have:=lfL_le ts no deep r q1;omega
    apply key
    ·split
     ·split<;>omega
     ·omega
    ·split
     ·split<;>omega
     ·omega
theorem lft_le (ts:List Slt) (deep room:Int) (h: -1≤room):lft ts deep room≤room∧-1≤lft ts deep room:=by
 unfold lft
 split
 ·exact⟨h,Int.le_refl _⟩
 ·exact lfL_le _ _ _ _ h
def prv (ts:List Slt) (k:Nat):Int:=if k=0 then 0 else(gs ts (k-1)).no
theorem r_left {W:World} {v:Value} {ts:List Slt} (h:Slo W v ts):∀(w:World) (deep room:Int),Below W.heap.size W w→0≤deep→deep≤7→-1≤room→room≤256→Calls Tryz.prog 71 #[v,.int .i64 deep,.int .i64 room] w fun e w'=>e=.returned (.int .i64 (lft ts deep room))∧Below w.heap.size w w':=by
 induction h with
 |mk ao cap ts us hl hc hn h hs ih=>
  intro w deep room hw hd0 hd7 hr1 hr2
  by_cases g1:16<ts.length
  ·have e1:decide ((ts.length:Int)>16)=true:=by simp;omega
   have hf:Hid (lft ts deep room= -1):=hide (if_pos (.inl g1))
   clear h hs ih g1
   go_enter Tryz.func71,Tryz.ntmps71
   go_wp2_with (fail)
   go_ret
   exact⟨by rw[hf.out];rfl,Below.refl _ _⟩
  have e1:decide ((ts.length:Int)>16)=false:=by simp;omega
  by_cases g2:6<deep
  ·have e2:decide (deep>6)=true:=by simpa using g2
   have hf:Hid (lft ts deep room= -1):=hide (if_pos (.inr g2))
   clear h hs ih g1 g2
   go_enter Tryz.func71,Tryz.ntmps71
   go_wp2_with (fail)
   go_ret
   exact⟨by rw[hf.out];rfl,Below.refl _ _⟩
  have e2:decide (deep>6)=false:=by simpa using g2
  have hlf:lft ts deep room=lfL ts 0 deep room:=if_neg (by omega)
  rw[hlf];clear hlf
  go_enter Tryz.func71,Tryz.ntmps71
  go_wp2_with (fail)
  go_loopw [2,7] (fun s i wr=>∃(k:Nat) (m:Int),k≤ts.length∧i=.int .i64 k∧s=.int .i64 m∧-1≤m∧m≤256∧lfL ts 0 deep room=lfL (ts.drop k) (prv ts k) deep m∧Below w.heap.size w wr) (fun _ i _=>ts.length-(intOf i).toNat)
  case atStart=>exact⟨0,room,by omega,rfl,rfl,hr1,hr2,rfl,Below.refl _ _⟩
  case round=>
   clear e1 e2;obtain⟨k,m,hk,rfl,rfl,hm1,hm2,he,hb⟩:=hrel;have hww:=Below.after hw hb
   by_cases hlt:k<ts.length
   ·have hd:decide ((k:Int)<(ts.length:Int))=true:=by simp;omega
    by_cases hm0:0≤m
    ·have hd2:decide (m≥0)=true:=by simpa using hm0
     rw[sdrop ts k hlt,lfL_cons,if_neg (by omega)] at he
     obtain⟨b,off,hao,hbl,hra,hok⟩:=h k hlt;have hsl:=hs k hlt;obtain⟨so,sc,hsf⟩:=hsl.form
     have hpv:k≠0→W.cell? ⟨b,off+(k-1)*5,none⟩=some (.int .i64 (prv ts k)):=fun hk0=>by
      obtain⟨b2,off2,hao2,_,hra2,_⟩:=h (k-1) (by omega)
      rw[hao] at hao2
      cases hao2
      have:=hra2 0 _ rfl;rw[prv,if_neg hk0];exact this
     have cR:=ih k hlt;subst hao;have hrw:=rangeS_keep2 hra hww hbl
     have ka0:∀p:Regrown,(grow (redrawn wr p.d) p.os).cell? ⟨b,off+k*5,none⟩=some (.int .i64 (gs ts k).no):=fun p=>cell_regrown (hrw 0 _ rfl) p.d p.os
     have kR:∀V,(∃p:Regrown,V=grow (redrawn wr p.d) p.os)→V.rangeAt b (off+k*5) (srow (gs ts k) (gvs us k)):=fun V ⟨p,e⟩ j x hx=>by rw[e];exact cell_regrown (hrw j x hx) p.d p.os
     have kb0:k≠0→∀p:Regrown,(grow (redrawn wr p.d) p.os).cell? ⟨b,off+(k-1)*5,none⟩=some (.int .i64 (prv ts k)):=fun hk0 p=>cell_regrown ((hww.cell (p:=⟨b,off+(k-1)*5,none⟩) hbl).trans (hpv hk0)) p.d p.os
     have c1:=hrw 1 _ rfl;have c4:=hrw 4 _ rfl
     have hk1:0≤(k:Int)∧(k:Int)<(ts.length:Int):=by omega
     have hpn:prv ts (k+1)=(gs ts k).no:=by rw[prv,if_neg (by omega),Nat.add_sub_cancel]
     have hpr:prv ts k=(if k=0 then 0 else prv ts k):=by by_cases q:k=0<;>simp[q,prv]
     have cF:GivesB wr 98 #[.agg #[.int .i64 (gs ts k).no,.int .i64 (gs ts k).kind,.int .u64 ((gs ts k).least:Int),.int .u64 ((gs ts k).most:Int),gvs us k]] (.bool (sfit (gs ts k))):=fun V _=>by
      rw[hsf]
      exact r_fitB _ _ _ _ (by omega) (by omega) _ _ _ V
     clear h hs ih hra hrw hpv hsl;unfold srow at kR
     generalize gvs us k=u at *
     generalize hsub:(gs ts k).sub=sub at *
     subst hsf;replace hsub:=hide hsub
     generalize hno:(gs ts k).no=no at *
     replace hno:=hide hno;have hnob:=hok.1;rw[hno.out] at hnob
     by_cases n1:no<1
     ·have d1:decide (no<1)=true:=by simpa using n1
      rw[if_pos (.inl n1)] at he
      clear n1 kb0;replace he:=hide he;clear hpr hok hpn
      go_wp2_with (fail)
      refine wp_region_quiet_below (by kernel_rfl) (by kernel_rfl) ?_
      go_big_quiet_step (fail);go_big_quiet_step (fail);go_big_quiet_step (fail);go_big_quiet_step (fail);go_big_quiet_step (fail);go_big_quiet_step (fail);go_big_quiet_step (fail);go_big_quiet_step (fail);go_big_quiet_step (fail);go_big_quiet_step (fail);go_big_quiet_step (fail);go_big_quiet_step (fail);go_big_quiet_step (fail);go_big_quiet_step (fail);go_big_quiet_step (fail);go_big_quiet_step (fail);go_big_quiet_step (fail);go_big_quiet_step (fail);go_big_quiet_step (fail);go_big_quiet_step (fail);go_big_quiet_step (fail);go_big_quiet_step (fail);go_big_quiet_step (fail);go_big_quiet_step (fail);go_big_quiet_step (fail);go_big_quiet_step (fail);go_big_quiet_step (fail);go_big_quiet_step (fail);go_big_quiet_step (fail);go_big_quiet_step (fail);go_big_quiet_step (fail);go_big_quiet_step (fail);go_big_quiet_step (fail);go_big_quiet_step (fail);go_big_quiet_step (fail);go_big_quiet_step (fail)
      first|(refine wpQuiet_load_sl rfl _ rfl b (off+k*5) rfl _ _ _ _ _ kR ?_;simp only[Act.put,ZPd,ZPe,ZPf])|go_big_quiet_step (fail)
      go_big_quiet_step (exact cF.re);go_big_quiet_step (fail);go_big_quiet_step (fail);refine wpQuiet_nil ?_;rintro _ ⟨p,rfl⟩;have hb2:=below_regrown wr p.d p.os
      generalize grow (redrawn wr p.d) p.os=w1 at *
      replace hb:=Below.after hb hb2;clear hb2 kR cF cR
      go_wp2_with (fail)
      go_ret
      exact⟨by rw[he.out];rfl,hb⟩
     have d1:decide (no<1)=false:=by simpa using n1
     by_cases n2:536870911<no
     ·have d2:decide (no>536870911)=true:=by simpa using n2
      rw[if_pos (.inr (.inl n2))] at he
      clear n1 n2 kb0;replace he:=hide he;clear hpr hok hpn
      go_wp2_with (fail)
      refine wp_region_quiet_below (by kernel_rfl) (by kernel_rfl) ?_
      go_big_quiet_step (fail);go_big_quiet_step (fail);go_big_quiet_step (fail);go_big_quiet_step (fail);go_big_quiet_step (fail);go_big_quiet_step (fail);go_big_quiet_step (fail);go_big_quiet_step (fail);go_big_quiet_step (fail);go_big_quiet_step (fail);go_big_quiet_step (fail);go_big_quiet_step (fail);go_big_quiet_step (fail);go_big_quiet_step (fail);go_big_quiet_step (fail);go_big_quiet_step (fail);go_big_quiet_step (fail);go_big_quiet_step (fail);go_big_quiet_step (fail);go_big_quiet_step (fail);go_big_quiet_step (fail);go_big_quiet_step (fail);go_big_quiet_step (fail);go_big_quiet_step (fail);go_big_quiet_step (fail);go_big_quiet_step (fail);go_big_quiet_step (fail);go_big_quiet_step (fail);go_big_quiet_step (fail);go_big_quiet_step (fail);go_big_quiet_step (fail);go_big_quiet_step (fail);go_big_quiet_step (fail);go_big_quiet_step (fail);go_big_quiet_step (fail);go_big_quiet_step (fail)
      first|(refine wpQuiet_load_sl rfl _ rfl b (off+k*5) rfl _ _ _ _ _ kR ?_;simp only[Act.put,ZPd,ZPe,ZPf])|go_big_quiet_step (fail)
      go_big_quiet_step (exact cF.re);go_big_quiet_step (fail);go_big_quiet_step (fail);refine wpQuiet_nil ?_;rintro _ ⟨p,rfl⟩;have hb2:=below_regrown wr p.d p.os
      generalize grow (redrawn wr p.d) p.os=w1 at *
      replace hb:=Below.after hb hb2;clear hb2 kR cF cR
      go_wp2_with (fail)
      go_ret
      exact⟨by rw[he.out];rfl,hb⟩
     have d2:decide (no>536870911)=false:=by simpa using n2
     by_cases hk0:k=0
     ·have d3:decide ((k:Int)>0)=false:=by simp;omega
      have d3b:decide (0<k)=false:=by simp;omega
      have hpz:prv ts k=0:=by rw[prv,if_pos hk0]
      rw[hpz] at he;clear kb0 hpr hpz;have hpr:True:=trivial
      cases hFt:sfit (gs ts k) with
      |false=>
       rw[hFt] at cF;rw[if_pos (.inr (.inr (.inr hFt)))] at he;replace hFt:=hide hFt;replace hk0:=hide hk0;clear n1 n2;replace he:=hide he;clear hpr hok hpn
       go_wp2_with (fail)
       refine wp_region_quiet_below (by kernel_rfl) (by kernel_rfl) ?_
       go_big_quiet_step (fail);go_big_quiet_step (fail);go_big_quiet_step (fail);go_big_quiet_step (fail);go_big_quiet_step (fail);go_big_quiet_step (fail);go_big_quiet_step (fail);go_big_quiet_step (fail);go_big_quiet_step (fail);go_big_quiet_step (fail);go_big_quiet_step (fail);go_big_quiet_step (fail);go_big_quiet_step (fail);go_big_quiet_step (fail);go_big_quiet_step (fail);go_big_quiet_step (fail);go_big_quiet_step (fail);go_big_quiet_step (fail);go_big_quiet_step (fail);go_big_quiet_step (fail);go_big_quiet_step (fail);go_big_quiet_step (fail);go_big_quiet_step (fail);go_big_quiet_step (fail);go_big_quiet_step (fail);go_big_quiet_step (fail);go_big_quiet_step (fail);go_big_quiet_step (fail);go_big_quiet_step (fail);go_big_quiet_step (fail);go_big_quiet_step (fail);go_big_quiet_step (fail);go_big_quiet_step (fail);go_big_quiet_step (fail);go_big_quiet_step (fail);go_big_quiet_step (fail)
       first|(refine wpQuiet_load_sl rfl _ rfl b (off+k*5) rfl _ _ _ _ _ kR ?_;simp only[Act.put,ZPd,ZPe,ZPf])|go_big_quiet_step (fail)
       go_big_quiet_step (exact cF.re);go_big_quiet_step (fail);go_big_quiet_step (fail);refine wpQuiet_nil ?_;rintro _ ⟨p,rfl⟩;have hb2:=below_regrown wr p.d p.os
       generalize grow (redrawn wr p.d) p.os=w1 at *
       replace hb:=Below.after hb hb2;clear hb2 kR cF cR
       go_wp2_with (fail)
       go_ret
       exact⟨by rw[he.out];rfl,hb⟩
      |true=>
       rw[hFt] at cF
       rw[if_neg (by simp[hFt];omega)] at he
       replace hFt:=hide hFt;replace hk0:=hide hk0;clear n1 n2;rw[←hpn] at he
       have hnsw:Hid (lfL ts 0 deep room=lfL (ts.drop (k+1)) (prv ts (k+1)) deep (if nst (gs ts k)∧0≤m-1 then lft sub (deep+1) (m-1) else m-1)):=hide he
       clear he hpr hpn
       go_wp2_with (fail)
       refine wp_region_quiet_below (by kernel_rfl) (by kernel_rfl) ?_
       go_big_quiet_step (fail);go_big_quiet_step (fail);go_big_quiet_step (fail);go_big_quiet_step (fail);go_big_quiet_step (fail);go_big_quiet_step (fail);go_big_quiet_step (fail);go_big_quiet_step (fail);go_big_quiet_step (fail);go_big_quiet_step (fail);go_big_quiet_step (fail);go_big_quiet_step (fail);go_big_quiet_step (fail);go_big_quiet_step (fail);go_big_quiet_step (fail);go_big_quiet_step (fail);go_big_quiet_step (fail);go_big_quiet_step (fail);go_big_quiet_step (fail);go_big_quiet_step (fail);go_big_quiet_step (fail);go_big_quiet_step (fail);go_big_quiet_step (fail);go_big_quiet_step (fail);go_big_quiet_step (fail);go_big_quiet_step (fail);go_big_quiet_step (fail);go_big_quiet_step (fail);go_big_quiet_step (fail);go_big_quiet_step (fail);go_big_quiet_step (fail);go_big_quiet_step (fail);go_big_quiet_step (fail);go_big_quiet_step (fail);go_big_quiet_step (fail);go_big_quiet_step (fail)
       first|(refine wpQuiet_load_sl rfl _ rfl b (off+k*5) rfl _ _ _ _ _ kR ?_;simp only[Act.put,ZPd,ZPe,ZPf])|go_big_quiet_step (fail)
       go_big_quiet_step (exact cF.re);go_big_quiet_step (fail);go_big_quiet_step (fail);refine wpQuiet_nil ?_;rintro _ ⟨p,rfl⟩;have hb2:=below_regrown wr p.d p.os
       generalize grow (redrawn wr p.d) p.os=w1 at *
       replace c1:=(hb2.cell (p:=⟨b,off+k*5+1,none⟩) (Nat.lt_of_lt_of_le hbl hww.size)).trans c1;replace c4:=(hb2.cell (p:=⟨b,off+k*5+4,none⟩) (Nat.lt_of_lt_of_le hbl hww.size)).trans c4;replace hb:=Below.after hb hb2;replace hww:=Below.after hww hb2;clear hb2 kR cF;have hnd:nst (gs ts k)↔(gs ts k).kind=8∨(gs ts k).kind=9:=Iff.rfl
       generalize (gs ts k).kind=kd at *
       by_cases k8:kd=8∨kd=9
       ·by_cases hm9:0≤m-1
        ·have hns:=hnsw.out
         rw[if_pos ⟨hnd.2 k8,hm9⟩] at hns
         have hdm:decide (m-1≥0)=true:=by simpa using hm9
         have cC:=cR w1 (deep+1) (m-1) hww (by omega) (by omega) (by omega) (by omega)
         have hlb:=lft_le sub (deep+1) (m-1) (by omega)
         replace hns:=hide hns
         generalize lft sub (deep+1) (m-1)=m2 at *
         clear hnsw cR hnd
         rcases k8 with rfl|rfl
         all_goals
          go_wp2_with (fail)
          refine cC.mono ?_;rintro e_ w2 ⟨rfl,hb3⟩;replace hb:=Below.after hb hb3;clear cC
          go_wp2_with (fail)
          refine⟨⟨k+1,m2,by omega,by go_num,rfl,by omega,by omega,hns.out,hb⟩,?_⟩
          simp[intOf];omega
        ·have hns:=hnsw.out
         rw[if_neg (fun q=>hm9 q.2)] at hns
         have hdm:decide (m-1≥0)=false:=by simpa using hm9
         replace hns:=hide hns;clear hnsw cR hnd
         rcases k8 with rfl|rfl
         all_goals
          go_wp2_with (fail)
          refine⟨⟨k+1,m-1,by omega,by go_num,rfl,by omega,by omega,hns.out,hb⟩,?_⟩
          simp[intOf];omega
       ·have hns:=hnsw.out
        rw[if_neg (fun q=>k8 (hnd.1 q.1))] at hns
        have q8:(kd==8)=false:=by simp;omega
        have q9:(kd==9)=false:=by simp;omega
        replace hns:=hide hns;clear hnsw cR hnd k8
        go_wp2_with (fail)
        refine⟨⟨k+1,m-1,by omega,by go_num,rfl,by omega,by omega,hns.out,hb⟩,?_⟩
        simp[intOf];omega
     ·have d3:decide ((k:Int)>0)=true:=by simp;omega
      have d3b:decide (0<k)=true:=by simp;omega
      have kb:=kb0 hk0
      have hk2:0≤(k:Int)-1∧(k:Int)-1<(ts.length:Int):=by omega
      have hkt:((k:Int)-1).toNat=k-1:=by omega
      generalize hpvv:prv ts k=pv at *
      clear kb0 hpr;have hpr:True:=trivial
      by_cases n3:no≤pv
      ·have d4:decide (no≤pv)=true:=by simpa using n3
       rw[if_pos (.inr (.inr (.inl n3)))] at he
       clear n1 n2 n3;replace he:=hide he;clear hpr hok hpn
       go_wp2_with (fail)
       refine wp_region_quiet_below (by kernel_rfl) (by kernel_rfl) ?_
       go_big_quiet_step (fail);go_big_quiet_step (fail);go_big_quiet_step (fail);go_big_quiet_step (fail);go_big_quiet_step (fail);go_big_quiet_step (fail);go_big_quiet_step (fail);go_big_quiet_step (fail);go_big_quiet_step (fail);go_big_quiet_step (fail);go_big_quiet_step (fail);go_big_quiet_step (fail);go_big_quiet_step (fail);go_big_quiet_step (fail);go_big_quiet_step (fail);go_big_quiet_step (fail);go_big_quiet_step (fail);go_big_quiet_step (fail);go_big_quiet_step (fail);go_big_quiet_step (fail);go_big_quiet_step (fail);go_big_quiet_step (fail);go_big_quiet_step (fail);go_big_quiet_step (fail);go_big_quiet_step (fail);go_big_quiet_step (fail);go_big_quiet_step (fail);go_big_quiet_step (fail);go_big_quiet_step (fail);go_big_quiet_step (fail);go_big_quiet_step (fail);go_big_quiet_step (fail);go_big_quiet_step (fail);go_big_quiet_step (fail);go_big_quiet_step (fail);go_big_quiet_step (fail)
       first|(refine wpQuiet_load_sl rfl _ rfl b (off+k*5) rfl _ _ _ _ _ kR ?_;simp only[Act.put,ZPd,ZPe,ZPf])|go_big_quiet_step (fail)
       go_big_quiet_step (exact cF.re);go_big_quiet_step (fail);go_big_quiet_step (fail);refine wpQuiet_nil ?_;rintro _ ⟨p,rfl⟩;have hb2:=below_regrown wr p.d p.os
       generalize grow (redrawn wr p.d) p.os=w1 at *
       replace hb:=Below.after hb hb2;clear hb2 kR cF cR
       go_wp2_with (fail)
       go_ret
       exact⟨by rw[he.out];rfl,hb⟩
      ·have d4:decide (no≤pv)=false:=by simpa using n3
       cases hFt:sfit (gs ts k) with
       |false=>
        rw[hFt] at cF;rw[if_pos (.inr (.inr (.inr hFt)))] at he;replace hFt:=hide hFt;clear n1 n2 n3;replace he:=hide he;clear hpr hok hpn
        go_wp2_with (fail)
        refine wp_region_quiet_below (by kernel_rfl) (by kernel_rfl) ?_
        go_big_quiet_step (fail);go_big_quiet_step (fail);go_big_quiet_step (fail);go_big_quiet_step (fail);go_big_quiet_step (fail);go_big_quiet_step (fail);go_big_quiet_step (fail);go_big_quiet_step (fail);go_big_quiet_step (fail);go_big_quiet_step (fail);go_big_quiet_step (fail);go_big_quiet_step (fail);go_big_quiet_step (fail);go_big_quiet_step (fail);go_big_quiet_step (fail);go_big_quiet_step (fail);go_big_quiet_step (fail);go_big_quiet_step (fail);go_big_quiet_step (fail);go_big_quiet_step (fail);go_big_quiet_step (fail);go_big_quiet_step (fail);go_big_quiet_step (fail);go_big_quiet_step (fail);go_big_quiet_step (fail);go_big_quiet_step (fail);go_big_quiet_step (fail);go_big_quiet_step (fail);go_big_quiet_step (fail);go_big_quiet_step (fail);go_big_quiet_step (fail);go_big_quiet_step (fail);go_big_quiet_step (fail);go_big_quiet_step (fail);go_big_quiet_step (fail);go_big_quiet_step (fail)
        first|(refine wpQuiet_load_sl rfl _ rfl b (off+k*5) rfl _ _ _ _ _ kR ?_;simp only[Act.put,ZPd,ZPe,ZPf])|go_big_quiet_step (fail)
        go_big_quiet_step (exact cF.re);go_big_quiet_step (fail);go_big_quiet_step (fail);refine wpQuiet_nil ?_;rintro _ ⟨p,rfl⟩;have hb2:=below_regrown wr p.d p.os
        generalize grow (redrawn wr p.d) p.os=w1 at *
        replace hb:=Below.after hb hb2;clear hb2 kR cF cR
        go_wp2_with (fail)
        go_ret
        exact⟨by rw[he.out];rfl,hb⟩
       |true=>
        rw[hFt] at cF
        rw[if_neg (by simp[hFt];omega)] at he
        replace hFt:=hide hFt;clear n1 n2 n3;rw[←hpn] at he
        have hnsw:Hid (lfL ts 0 deep room=lfL (ts.drop (k+1)) (prv ts (k+1)) deep (if nst (gs ts k)∧0≤m-1 then lft sub (deep+1) (m-1) else m-1)):=hide he
        clear he hpr hpn
        go_wp2_with (fail)
        refine wp_region_quiet_below (by kernel_rfl) (by kernel_rfl) ?_
        go_big_quiet_step (fail);go_big_quiet_step (fail);go_big_quiet_step (fail);go_big_quiet_step (fail);go_big_quiet_step (fail);go_big_quiet_step (fail);go_big_quiet_step (fail);go_big_quiet_step (fail);go_big_quiet_step (fail);go_big_quiet_step (fail);go_big_quiet_step (fail);go_big_quiet_step (fail);go_big_quiet_step (fail);go_big_quiet_step (fail);go_big_quiet_step (fail);go_big_quiet_step (fail);go_big_quiet_step (fail);go_big_quiet_step (fail);go_big_quiet_step (fail);go_big_quiet_step (fail);go_big_quiet_step (fail);go_big_quiet_step (fail);go_big_quiet_step (fail);go_big_quiet_step (fail);go_big_quiet_step (fail);go_big_quiet_step (fail);go_big_quiet_step (fail);go_big_quiet_step (fail);go_big_quiet_step (fail);go_big_quiet_step (fail);go_big_quiet_step (fail);go_big_quiet_step (fail);go_big_quiet_step (fail);go_big_quiet_step (fail);go_big_quiet_step (fail);go_big_quiet_step (fail)
        first|(refine wpQuiet_load_sl rfl _ rfl b (off+k*5) rfl _ _ _ _ _ kR ?_;simp only[Act.put,ZPd,ZPe,ZPf])|go_big_quiet_step (fail)
        go_big_quiet_step (exact cF.re);go_big_quiet_step (fail);go_big_quiet_step (fail);refine wpQuiet_nil ?_;rintro _ ⟨p,rfl⟩;have hb2:=below_regrown wr p.d p.os
        generalize grow (redrawn wr p.d) p.os=w1 at *
        replace c1:=(hb2.cell (p:=⟨b,off+k*5+1,none⟩) (Nat.lt_of_lt_of_le hbl hww.size)).trans c1;replace c4:=(hb2.cell (p:=⟨b,off+k*5+4,none⟩) (Nat.lt_of_lt_of_le hbl hww.size)).trans c4;replace hb:=Below.after hb hb2;replace hww:=Below.after hww hb2;clear hb2 kR cF;have hnd:nst (gs ts k)↔(gs ts k).kind=8∨(gs ts k).kind=9:=Iff.rfl
        generalize (gs ts k).kind=kd at *
        by_cases k8:kd=8∨kd=9
        ·by_cases hm9:0≤m-1
         ·have hns:=hnsw.out
          rw[if_pos ⟨hnd.2 k8,hm9⟩] at hns
          have hdm:decide (m-1≥0)=true:=by simpa using hm9
          have cC:=cR w1 (deep+1) (m-1) hww (by omega) (by omega) (by omega) (by omega)
          have hlb:=lft_le sub (deep+1) (m-1) (by omega)
          replace hns:=hide hns
          generalize lft sub (deep+1) (m-1)=m2 at *
          clear hnsw cR hnd
          rcases k8 with rfl|rfl
          all_goals
           go_wp2_with (fail)
           refine cC.mono ?_;rintro e_ w2 ⟨rfl,hb3⟩;replace hb:=Below.after hb hb3;clear cC
           go_wp2_with (fail)
           refine⟨⟨k+1,m2,by omega,by go_num,rfl,by omega,by omega,hns.out,hb⟩,?_⟩
           simp[intOf];omega
         ·have hns:=hnsw.out
          rw[if_neg (fun q=>hm9 q.2)] at hns
          have hdm:decide (m-1≥0)=false:=by simpa using hm9
          replace hns:=hide hns;clear hnsw cR hnd
          rcases k8 with rfl|rfl
          all_goals
           go_wp2_with (fail)
           refine⟨⟨k+1,m-1,by omega,by go_num,rfl,by omega,by omega,hns.out,hb⟩,?_⟩
           simp[intOf];omega
        ·have hns:=hnsw.out
         rw[if_neg (fun q=>k8 (hnd.1 q.1))] at hns
         have q8:(kd==8)=false:=by simp;omega
         have q9:(kd==9)=false:=by simp;omega
         replace hns:=hide hns;clear hnsw cR hnd k8
         go_wp2_with (fail)
         refine⟨⟨k+1,m-1,by omega,by go_num,rfl,by omega,by omega,hns.out,hb⟩,?_⟩
         simp[intOf];omega
    ·have hd2:decide (m≥0)=false:=by simpa using hm0
     rw[lfL_neg (ts.drop k) _ _ _ (by omega)] at he
     replace he:=hide he;clear h hs ih
     go_wp2_with (fail)
     go_ret
     exact⟨by rw[he.out];rfl,hb⟩
   ·have hd:decide ((k:Int)<(ts.length:Int))=false:=by simp;omega
    rw[List.drop_eq_nil_of_le (by omega),lfL] at he
    replace he:=hide he;clear h hs ih
    go_wp2_with (fail)
    go_ret
    exact⟨by rw[he.out];rfl,hb⟩
def slsz (k:Int) (l m:Nat) (s:Nat×Nat):Nat×Nat:=
 if k=1 then((en l).length,(en m).length) else if k=2 then(4,4) else if k=3∨k=7 then(8,8) else if k=4 then(1,1) else if k=5∨k=6 then(frm l,frm m)
 else if k=8 then(frm s.1,frm s.2) else(frm (cpd (frm s.1*l)),frm (cpd (frm s.2*m)))
def hdl (no k:Int):Nat:=(en (8*no.toNat+(tyOf k).toNat)).length
def spL:List Slt→Nat→Nat→Nat×Nat
 |[],a,b=>(a,b)
 | .mk no k l m sub::ts,a,b=>spL ts (cpd (a+hdl no k+(slsz k l m (spL sub 0 0)).1)) (cpd (b+hdl no k+(slsz k l m (spL sub 0 0)).2))
theorem spL_cons (t:Slt) (ts:List Slt) (a b:Nat):spL (t::ts) a b=spL ts (cpd (a+hdl t.no t.kind+(slsz t.kind t.least t.most (spL t.sub 0 0)).1)) (cpd (b+hdl t.no t.kind+(slsz t.kind t.least t.most (spL t.sub 0 0)).2)):=by
 cases t
 rw[spL];rfl
def gd:List Slt→Prop
 |[]=>True
 | .mk no k l m sub::ts=>((1≤no∧no≤536870911)∧fitN k (l:Int) (m:Int) sub.length=true∧((k=8∨k=9)→gd sub))∧gd ts
theorem gd_cons (t:Slt) (ts:List Slt):gd (t::ts)↔((1≤t.no∧t.no≤536870911)∧sfit t=true∧(nst t→gd t.sub))∧gd ts:=by
 cases t
 rw[gd];rfl
theorem lfL_gd:∀(ts:List Slt) (prev deep room:Int),-1≤room→0≤lfL ts prev deep room→gd ts
 |[],_,_,_,_,_=>by rw[gd];trivial
 | .mk no k l m sub::ts,prev,deep,room,h0,h=>by
  rw[gd];rw[lfL] at h
  split at h
  ·omega
  ·split at h
   ·omega
   ·rename_i hr hb
    have h1:¬(no<1):=fun q=>hb (.inl q)
    have h2:¬(536870911<no):=fun q=>hb (.inr (.inl q))
    have h3:fitN k (l:Int) (m:Int) sub.length=true:=by
     cases q:fitN k (l:Int) (m:Int) sub.length with
     |true=>rfl
     |false=>exact absurd (.inr (.inr (.inr q))) hb
    have hl1:=lfL_le sub 0 (deep+1) (room-1) (by omega)
    refine⟨⟨⟨by omega,by omega⟩,h3,fun hk=>?_⟩,?_⟩
    ·by_cases q:0≤room-1
     ·rw[if_pos ⟨hk,q⟩] at h
      by_cases q2:16<sub.length∨6<deep+1
      ·rw[if_pos q2,lfL_neg _ _ _ _ (by omega)] at h
       omega
      ·rw[if_neg q2] at h
       by_cases q3:0≤lfL sub 0 (deep+1) (room-1)
       ·exact lfL_gd sub 0 (deep+1) (room-1) (by omega) q3
       ·rw[lfL_neg ts _ _ _ (by omega)] at h
        omega
     ·rw[if_neg (fun x=>q x.2),lfL_neg _ _ _ _ (by omega)] at h
      omega
    ·refine lfL_gd ts no deep _ ?_ h
     split
     ·split
      ·omega
      ·exact hl1.2
     ·omega
theorem lft_gd (ts:List Slt) (deep room:Int) (h0: -1≤room) (h:0≤lft ts deep room):gd ts:=by
 unfold lft at h
 split at h
 ·omega
 ·exact lfL_gd _ _ _ _ h0 h
theorem gd_at:∀(ts:List Slt) (i:Nat),i<ts.length→gd ts→(1≤(gs ts i).no∧(gs ts i).no≤536870911)∧sfit (gs ts i)=true∧(nst (gs ts i)→gd (gs ts i).sub)
 |[],i,hi,_=>by simp at hi
 |t::ts,0,_,h=>((gd_cons t ts).1 h).1
 |t::ts,i+1,hi,h=>gd_at ts i (by simp at hi;omega) ((gd_cons t ts).1 h).2
theorem fit_cases {k:Int} {l m n:Nat} (h:fitN k (l:Int) (m:Int) n=true):(k=1∧l≤m)∨(k=2∧l≤m∧m<4294967296)∨(k=3∧l≤m)∨k=4∨((k=5∨k=6)∧l≤m∧m≤4194304)∨k=7∨k=8∨(k=9∧l≤m∧m≤4096):=by
 rcases kind_cases k with rfl|rfl|rfl|rfl|rfl|rfl|rfl|rfl|rfl|⟨h1,h2,h3,h4,h5,h6,h7,h8,h9⟩
 all_goals try (simp[fitN,fitB] at h;omega)
 simp[fitN,fitB,h1,h2,h3,h4,h5,h6,h7,h8,h9] at h
theorem frm_le (n:Nat):frm n≤4194305:=cpd_le _
theorem spL_le:∀(ts:List Slt) (a b:Nat),a≤4194305→b≤4194305→(spL ts a b).1≤4194305∧(spL ts a b).2≤4194305
 |[],a,b,h1,h2=>by rw[spL];exact⟨h1,h2⟩
 |t::ts,a,b,_,_=>by
  rw[spL_cons];exact spL_le ts _ _ (cpd_le _) (cpd_le _)
theorem wpList_load_sl {ops:Array Oper} {rest:List Oper} {o:Oper} {a:Act} {w:World} {Q:Exit→Act→World→Prop} (hw:Region.wanted o (yielded ops a.tmps)=true) (x:Operand) (ho:o.op=.load 88 x)
 (g off:Nat) (hx:a.eval x=.pointer (some ⟨g,off,none⟩)) (c0 c1 c2 c3 c4:Value) (hr:w.rangeAt g off [c0,c1,c2,c3,c4])
 (h:wpList Tryz.prog ops Q rest (a.put o.dst (.agg #[c0,c1,c2,c3,c4])) w):wpList Tryz.prog ops Q (o::rest) a w:=
 BigFrame.wpList_want hw fun _ hK=>wp_load_mid 88 x ho g off hx [c0,c1,c2,c3,c4] _ hr Tryz.underlying88 rfl infoS (hK _ _ h)
theorem tyOf_nat (k:Int):∃T:Nat,tyOf k=(T:Int)∧T≤5:=by
 unfold tyOf
 split
 ·exact⟨5,rfl,by omega⟩
 ·split
  ·exact⟨1,rfl,by omega⟩
  ·split
   ·exact⟨0,rfl,by omega⟩
   ·exact⟨2,rfl,by omega⟩
theorem r_span {W:World} {v:Value} {ts:List Slt} (h:Slo W v ts):gd ts→∀(w:World),Below W.heap.size W w→Calls Tryz.prog 40 #[v] w fun e w'=>e=.returned (.tuple #[.int .i64 ((spL ts 0 0).1:Int),.int .i64 ((spL ts 0 0).2:Int)])∧Below w.heap.size w w':=by
 induction h with
 |mk ao cap ts us hl hc hn h hs ih=>
  intro hgd w hw
  go_enter Tryz.func40,Tryz.ntmps40
  go_wp2_with (fail)
  go_loopw [4,5,6] (fun s t i wr=>∃(k a b:Nat),k≤ts.length∧i=.int .i64 k∧s=.int .i64 (a:Int)∧t=.int .i64 (b:Int)∧a≤4194305∧b≤4194305∧spL ts 0 0=spL (ts.drop k) a b∧Below w.heap.size w wr) (fun _ _ i _=>ts.length-(intOf i).toNat)
  case atStart=>exact⟨0,0,0,by omega,rfl,rfl,rfl,by omega,by omega,rfl,Below.refl _ _⟩
  case round=>
   obtain⟨k,a,b,hk,rfl,rfl,rfl,ha,hb',he,hb⟩:=hrel;have hww:=Below.after hw hb
   by_cases hlt:k<ts.length
   ·have hd:decide ((k:Int)<(ts.length:Int))=true:=by simp;omega
    obtain⟨⟨hn1,hn2⟩,hfit,hsubg⟩:=gd_at ts k hlt hgd
    rw[sdrop ts k hlt,spL_cons] at he;obtain⟨bb,off,hao,hbl,hra,hok⟩:=h k hlt;obtain⟨so,sc,hsf⟩:=(hs k hlt).form;have cI:=ih k hlt;subst hao;have hrw:=rangeS_keep2 hra hww hbl
    have hk1:0≤(k:Int)∧(k:Int)<(ts.length:Int):=by omega
    have hsl:=spL_le (gs ts k).sub 0 0 (by omega) (by omega)
    have hcas:=fit_cases hfit;have hlb:=hok.2.2.1;have hmb:=hok.2.2.2;unfold srow at hrw;clear h hs ih hra hok hfit
    obtain⟨N,hN⟩:∃N:Nat,(gs ts k).no=(N:Int):=⟨(gs ts k).no.toNat,by omega⟩
    obtain⟨T,hT,hT5⟩:=tyOf_nat (gs ts k).kind
    have hhd:hdl (gs ts k).no (gs ts k).kind=(en (8*N+T)).length:=by rw[hdl,hN,hT];rfl
    have hel:(en (8*N+T)).length≤10:=en_ten (by omega)
    have cT:=r_typeOf (gs ts k).kind
    have cS:=r_size (8*N+T) (by omega)
    rw[Int.natCast_add,Int.natCast_mul] at cS;rw[hT] at cT;rw[hhd] at he
    generalize (en (8*N+T)).length=H at *
    rw[hN] at hrw hn1 hn2
    generalize gvs us k=u at *
    generalize (gs ts k).least=l at *
    generalize (gs ts k).most=m at *
    have hnd:nst (gs ts k)↔(gs ts k).kind=8∨(gs ts k).kind=9:=Iff.rfl
    generalize (gs ts k).kind=kd at *
    generalize (gs ts k).sub=sub at *
    generalize (gs ts k).no=no' at *
    clear hT hN hhd;subst hsf;have r0:=hp1_0 wr (.cells #[.int .i64 0,.int .i64 0,.int .u64 0,.int .u64 0,nS] 88)
    have hone:(#[.int .i64 (N:Int),.int .i64 kd,.int .u64 (l:Int),.int .u64 (m:Int),.slice so sub.length sc]:Array Value).all (·.oneCell')=true:=by simp[Value.oneCell']
    have hba:Below wr.heap.size wr ((wr.alloc (.cells #[.int .i64 0,.int .i64 0,.int .u64 0,.int .u64 0,nS] 88)).setRow wr.heap.size #[.int .i64 (N:Int),.int .i64 kd,.int .u64 (l:Int),.int .u64 (m:Int),.slice so sub.length sc]):=below_setRow ((Below.refl _ _).alloc (Nat.le_refl _) _) (Nat.le_refl _) #[.int .i64 (N:Int),.int .i64 kd,.int .u64 (l:Int),.int .u64 (m:Int),.slice so sub.length sc];have r1:=setRow_heap _ wr.heap.size _ #[.int .i64 (N:Int),.int .i64 kd,.int .u64 (l:Int),.int .u64 (m:Int),.slice so sub.length sc] _ _ r0
    go_wp2_with (first|(refine wpList_load_sl rfl _ rfl bb (off+k*5) rfl _ _ _ _ _ hrw ?_)|(refine wpList_alloc rfl 88 rfl #[.int .i64 0,.int .i64 0,.int .u64 0,.int .u64 0,nS] zSl ?_)|(refine wpList_store_row rfl 88 _ _ rfl (wr.heap.size) #[.int .i64 (N:Int),.int .i64 kd,.int .u64 (l:Int),.int .u64 (m:Int),.slice so sub.length sc] rfl rfl 88 _ r0 infoS rfl hone ?_)|fail)
    replace hb:=Below.after hb hba;replace hww:=Below.after hww hba;clear r0 hone hba
    generalize (wr.alloc (.cells #[.int .i64 0,.int .i64 0,.int .u64 0,.int .u64 0,nS] 88)).setRow wr.heap.size #[.int .i64 (N:Int),.int .i64 kd,.int .u64 (l:Int),.int .u64 (m:Int),.slice so sub.length sc]=w1 at *
    generalize wr.heap.size=g at *
    have hc0:w1.cell? ⟨g,0,none⟩=some (.int .i64 (N:Int)):=by rw[cell_of_row _ g 0 _ _ _ r1];rfl
    have hc1:w1.cell? ⟨g,1,none⟩=some (.int .i64 kd):=by rw[cell_of_row _ g 1 _ _ _ r1];rfl
    have k0:∀p:Regrown,(grow (redrawn w1 p.d) p.os).cell? ⟨g,0,none⟩=some (.int .i64 (N:Int)):=fun p=>cell_regrown hc0 p.d p.os
    have k1:∀p:Regrown,(grow (redrawn w1 p.d) p.os).cell? ⟨g,1,none⟩=some (.int .i64 kd):=fun p=>cell_regrown hc1 p.d p.os
    have cT1:GivesB w1 54 #[.int .i64 kd] (.int .i64 (T:Int)):=fun V _=>cT V
    have cS1:GivesB w1 64 #[.int .u64 (8*(N:Int)+(T:Int))] (.int .i64 (H:Int)):=fun V _=>cS V
    have hNb:0≤8*(N:Int)+(T:Int)∧8*(N:Int)+(T:Int)≤4294967301:=by omega
    have hNc:0≤8*(N:Int)∧8*(N:Int)≤4294967296:=by omega
    clear cT cS hc0 hc1;simp only[Act.put,ZPd,ZPe,ZPf]
    refine wp_region_quiet_below (by kernel_rfl) (by kernel_rfl) ?_
    go_big_quiet_step (fail);go_big_quiet_step (fail);go_big_quiet_step (fail);go_big_quiet_step (fail);go_big_quiet_step (fail);go_big_quiet_step (exact cT1.re);go_big_quiet_step (fail);go_big_quiet_step (fail);go_big_quiet_step (exact cS1.re);go_big_quiet_step (fail);refine wpQuiet_nil ?_;rintro _ ⟨p,rfl⟩;have hb2:=below_regrown w1 p.d p.os
    generalize grow (redrawn w1 p.d) p.os=w2 at *
    replace r1:=keep hb2 r1;replace hb:=Below.after hb hb2;replace hww:=Below.after hww hb2;clear hb2 k0 k1 cT1 cS1
    have hc1:w2.cell? ⟨g,1,none⟩=some (.int .i64 kd):=by rw[cell_of_row _ g 1 _ _ _ r1];rfl
    rcases hcas with⟨rfl,hlm⟩|⟨rfl,hlm,hm3⟩|⟨rfl,hlm⟩|rfl|⟨hk56,hlm,hm4⟩|rfl|rfl|⟨rfl,hlm,hm4⟩
    ·rw[show slsz 1 l m (spL sub 0 0)=((en l).length,(en m).length) from rfl] at he
     replace he:=hide he
     have e1:=en_ten hlb;have e2:=en_ten hmb
     have s1:GivesB w2 64 #[.int .u64 (l:Int)] (.int .i64 ((en l).length:Int)):=fun V _=>r_size l hlb V
     have s2:GivesB w2 64 #[.int .u64 (m:Int)] (.int .i64 ((en m).length:Int)):=fun V _=>r_size m hmb V
     generalize (en l).length=A at *
     generalize (en m).length=Bm at *
     have hc2:w2.cell? ⟨g,2,none⟩=some (.int .u64 (l:Int)):=by rw[cell_of_row _ g 2 _ _ _ r1];rfl
     have hc3:w2.cell? ⟨g,3,none⟩=some (.int .u64 (m:Int)):=by rw[cell_of_row _ g 3 _ _ _ r1];rfl
     have k2:∀p:Regrown,(grow (redrawn w2 p.d) p.os).cell? ⟨g,2,none⟩=some (.int .u64 (l:Int)):=fun p=>cell_regrown hc2 p.d p.os
     have k3:∀p:Regrown,(grow (redrawn w2 p.d) p.os).cell? ⟨g,3,none⟩=some (.int .u64 (m:Int)):=fun p=>cell_regrown hc3 p.d p.os
     clear cI hnd hsubg hsl
     go_wp2_with (fail)
     refine wp_region_quiet_below (by kernel_rfl) (by kernel_rfl) ?_
     go_big_quiet_step (fail);go_big_quiet_step (fail);go_big_quiet_step (exact s1.re);go_big_quiet_step (fail);go_big_quiet_step (fail);go_big_quiet_step (exact s2.re);go_big_quiet_step (fail);go_big_quiet_step (fail);refine wpQuiet_nil ?_;rintro _ ⟨p,rfl⟩;have hb2:=below_regrown w2 p.d p.os
     generalize grow (redrawn w2 p.d) p.os=w3 at *
     replace hb:=Below.after hb hb2;clear hb2 k2 k3 s1 s2;have cA:=r_capped (a+H+A) w3;have cB:=r_capped (b+H+Bm);have la:=cpd_le (a+H+A);have lb:=cpd_le (b+H+Bm);rw[Int.natCast_add,Int.natCast_add] at cA
     generalize cpd (a+H+A)=a2 at *
     generalize hcb:cpd (b+H+Bm)=b2 at *
     go_wp2_with (fail)
     refine cA.mono ?_;rintro e_ wa ⟨rfl,hba⟩;replace hb:=Below.after hb hba;clear cA hba;have cB1:=cB wa;rw[Int.natCast_add,Int.natCast_add] at cB1
     go_wp2_with (fail)
     refine cB1.mono ?_;rintro e_ wb ⟨rfl,hba⟩;replace hb:=Below.after hb hba;clear cB cB1 hba
     go_wp2_with (fail)
     refine⟨⟨k+1,a2,b2,by omega,by go_num,rfl,rfl,la,lb,he.out,hb⟩,?_⟩
     simp[intOf];omega
    ·rw[show slsz 2 l m (spL sub 0 0)=(4,4) from rfl] at he
     replace he:=hide he
     clear cI hnd hsubg hsl;have cA:=r_capped (a+H+4) w2;have cB:=r_capped (b+H+4);have la:=cpd_le (a+H+4);have lb:=cpd_le (b+H+4);rw[Int.natCast_add,Int.natCast_add] at cA
     generalize cpd (a+H+4)=a2 at *
     generalize hcb:cpd (b+H+4)=b2 at *
     go_wp2_with (fail)
     refine cA.mono ?_;rintro e_ wa ⟨rfl,hba⟩;replace hb:=Below.after hb hba;clear cA hba;have cB1:=cB wa;rw[Int.natCast_add,Int.natCast_add] at cB1
     go_wp2_with (fail)
     refine cB1.mono ?_;rintro e_ wb ⟨rfl,hba⟩;replace hb:=Below.after hb hba;clear cB cB1 hba
     go_wp2_with (fail)
     refine⟨⟨k+1,a2,b2,by omega,by go_num,rfl,rfl,la,lb,he.out,hb⟩,?_⟩
     simp[intOf];omega
    ·rw[show slsz 3 l m (spL sub 0 0)=(8,8) from rfl] at he
     replace he:=hide he
     clear cI hnd hsubg hsl;have cA:=r_capped (a+H+8) w2;have cB:=r_capped (b+H+8);have la:=cpd_le (a+H+8);have lb:=cpd_le (b+H+8);rw[Int.natCast_add,Int.natCast_add] at cA
     generalize cpd (a+H+8)=a2 at *
     generalize hcb:cpd (b+H+8)=b2 at *
     go_wp2_with (fail)
     refine cA.mono ?_;rintro e_ wa ⟨rfl,hba⟩;replace hb:=Below.after hb hba;clear cA hba;have cB1:=cB wa;rw[Int.natCast_add,Int.natCast_add] at cB1
     go_wp2_with (fail)
     refine cB1.mono ?_;rintro e_ wb ⟨rfl,hba⟩;replace hb:=Below.after hb hba;clear cB cB1 hba
     go_wp2_with (fail)
     refine⟨⟨k+1,a2,b2,by omega,by go_num,rfl,rfl,la,lb,he.out,hb⟩,?_⟩
     simp[intOf];omega
    ·rw[show slsz 4 l m (spL sub 0 0)=(1,1) from rfl] at he
     replace he:=hide he
     clear cI hnd hsubg hsl;have cA:=r_capped (a+H+1) w2;have cB:=r_capped (b+H+1);have la:=cpd_le (a+H+1);have lb:=cpd_le (b+H+1);rw[Int.natCast_add,Int.natCast_add] at cA
     generalize cpd (a+H+1)=a2 at *
     generalize hcb:cpd (b+H+1)=b2 at *
     go_wp2_with (fail)
     refine cA.mono ?_;rintro e_ wa ⟨rfl,hba⟩;replace hb:=Below.after hb hba;clear cA hba;have cB1:=cB wa;rw[Int.natCast_add,Int.natCast_add] at cB1
     go_wp2_with (fail)
     refine cB1.mono ?_;rintro e_ wb ⟨rfl,hba⟩;replace hb:=Below.after hb hba;clear cB cB1 hba
     go_wp2_with (fail)
     refine⟨⟨k+1,a2,b2,by omega,by go_num,rfl,rfl,la,lb,he.out,hb⟩,?_⟩
     simp[intOf];omega
    ·have hsz:slsz kd l m (spL sub 0 0)=(frm l,frm m):=by rcases hk56 with rfl|rfl<;>rfl
     rw[hsz] at he
     replace he:=hide he;have e1:=frm_le l;have e2:=frm_le m
     have s1:GivesB w2 65 #[.int .i64 (l:Int)] (.int .i64 (frm l:Int)):=fun V _=>r_framed l (by omega) V
     have s2:GivesB w2 65 #[.int .i64 (m:Int)] (.int .i64 (frm m:Int)):=fun V _=>r_framed m (by omega) V
     generalize frm l=A at *
     generalize frm m=Bm at *
     have hc2:w2.cell? ⟨g,2,none⟩=some (.int .u64 (l:Int)):=by rw[cell_of_row _ g 2 _ _ _ r1];rfl
     have hc3:w2.cell? ⟨g,3,none⟩=some (.int .u64 (m:Int)):=by rw[cell_of_row _ g 3 _ _ _ r1];rfl
     have k2:∀p:Regrown,(grow (redrawn w2 p.d) p.os).cell? ⟨g,2,none⟩=some (.int .u64 (l:Int)):=fun p=>cell_regrown hc2 p.d p.os
     have k3:∀p:Regrown,(grow (redrawn w2 p.d) p.os).cell? ⟨g,3,none⟩=some (.int .u64 (m:Int)):=fun p=>cell_regrown hc3 p.d p.os
     clear cI hnd hsubg hsl hsz
     rcases hk56 with rfl|rfl
     all_goals
      go_wp2_with (fail)
      refine wp_region_quiet_below (by kernel_rfl) (by kernel_rfl) ?_
      go_big_quiet_step (fail);go_big_quiet_step (fail);go_big_quiet_step (fail);go_big_quiet_step (exact s1.re);go_big_quiet_step (fail);go_big_quiet_step (fail);go_big_quiet_step (fail);go_big_quiet_step (exact s2.re);go_big_quiet_step (fail);go_big_quiet_step (fail);refine wpQuiet_nil ?_;rintro _ ⟨p,rfl⟩;have hb2:=below_regrown w2 p.d p.os
      generalize grow (redrawn w2 p.d) p.os=w3 at *
      replace hb:=Below.after hb hb2;clear hb2 k2 k3 s1 s2;have cA:=r_capped (a+H+A) w3;have cB:=r_capped (b+H+Bm);have la:=cpd_le (a+H+A);have lb:=cpd_le (b+H+Bm);rw[Int.natCast_add,Int.natCast_add] at cA
      generalize cpd (a+H+A)=a2 at *
      generalize hcb:cpd (b+H+Bm)=b2 at *
      go_wp2_with (fail)
      refine cA.mono ?_;rintro e_ wa ⟨rfl,hba⟩;replace hb:=Below.after hb hba;clear cA hba;have cB1:=cB wa;rw[Int.natCast_add,Int.natCast_add] at cB1
      go_wp2_with (fail)
      refine cB1.mono ?_;rintro e_ wb ⟨rfl,hba⟩;replace hb:=Below.after hb hba;clear cB cB1 hba
      go_wp2_with (fail)
      refine⟨⟨k+1,a2,b2,by omega,by go_num,rfl,rfl,la,lb,he.out,hb⟩,?_⟩
      simp[intOf];omega
    ·rw[show slsz 7 l m (spL sub 0 0)=(8,8) from rfl] at he
     replace he:=hide he
     clear cI hnd hsubg hsl;have cA:=r_capped (a+H+8) w2;have cB:=r_capped (b+H+8);have la:=cpd_le (a+H+8);have lb:=cpd_le (b+H+8);rw[Int.natCast_add,Int.natCast_add] at cA
     generalize cpd (a+H+8)=a2 at *
     generalize hcb:cpd (b+H+8)=b2 at *
     go_wp2_with (fail)
     refine cA.mono ?_;rintro e_ wa ⟨rfl,hba⟩;replace hb:=Below.after hb hba;clear cA hba;have cB1:=cB wa;rw[Int.natCast_add,Int.natCast_add] at cB1
     go_wp2_with (fail)
     refine cB1.mono ?_;rintro e_ wb ⟨rfl,hba⟩;replace hb:=Below.after hb hba;clear cB cB1 hba
     go_wp2_with (fail)
     refine⟨⟨k+1,a2,b2,by omega,by go_num,rfl,rfl,la,lb,he.out,hb⟩,?_⟩
     simp[intOf];omega
    ·rw[show slsz 8 l m (spL sub 0 0)=(frm (spL sub 0 0).1,frm (spL sub 0 0).2) from rfl] at he
     replace he:=hide he
     have cX:=cI (hsubg (hnd.2 (.inl rfl))) w2 hww
     have hc4:w2.cell? ⟨g,4,none⟩=some (.slice so sub.length sc):=by rw[cell_of_row _ g 4 _ _ _ r1];rfl
     obtain⟨x1,x2⟩:=hsl
     have cF1:=r_framed (spL sub 0 0).1 (by omega)
     have cF2:=r_framed (spL sub 0 0).2 (by omega)
     have e1:=frm_le (spL sub 0 0).1;have e2:=frm_le (spL sub 0 0).2
     generalize hf1:frm (spL sub 0 0).1=A at *
     generalize hf2:frm (spL sub 0 0).2=Bm at *
     generalize (spL sub 0 0).1=X at *
     generalize (spL sub 0 0).2=Y at *
     replace hf1:=hide hf1;replace hf2:=hide hf2;clear cI hnd hsubg
     go_wp2_with (fail)
     refine cX.mono ?_;rintro e_ w3 ⟨rfl,hb3⟩;replace r1:=keep hb3 r1;replace hb:=Below.after hb hb3;clear cX hb3;have cG:=cF1 w3
     go_wp2_with (fail)
     refine cG.mono ?_;rintro e_ w4 ⟨rfl,hb3⟩;replace r1:=keep hb3 r1;replace hb:=Below.after hb hb3;clear cG hb3;have cG:=cF2 w4
     go_wp2_with (fail)
     refine cG.mono ?_;rintro e_ w5 ⟨rfl,hb3⟩;replace r1:=keep hb3 r1;replace hb:=Below.after hb hb3;clear cG hb3 cF1 cF2;have cA:=r_capped (a+H+A) w5;have cB:=r_capped (b+H+Bm);have la:=cpd_le (a+H+A);have lb:=cpd_le (b+H+Bm);rw[Int.natCast_add,Int.natCast_add] at cA
     generalize cpd (a+H+A)=a2 at *
     generalize hcb:cpd (b+H+Bm)=b2 at *
     go_wp2_with (fail)
     refine cA.mono ?_;rintro e_ wa ⟨rfl,hba⟩;replace hb:=Below.after hb hba;clear cA hba;have cB1:=cB wa;rw[Int.natCast_add,Int.natCast_add] at cB1
     go_wp2_with (fail)
     refine cB1.mono ?_;rintro e_ wb ⟨rfl,hba⟩;replace hb:=Below.after hb hba;clear cB cB1 hba
     go_wp2_with (fail)
     refine⟨⟨k+1,a2,b2,by omega,by go_num,rfl,rfl,la,lb,he.out,hb⟩,?_⟩
     simp[intOf];omega
    ·rw[show slsz 9 l m (spL sub 0 0)=(frm (cpd (frm (spL sub 0 0).1*l)),frm (cpd (frm (spL sub 0 0).2*m))) from rfl] at he
     replace he:=hide he
     have cX:=cI (hsubg (hnd.2 (.inr rfl))) w2 hww
     have hc4:w2.cell? ⟨g,4,none⟩=some (.slice so sub.length sc):=by rw[cell_of_row _ g 4 _ _ _ r1];rfl
     obtain⟨x1,x2⟩:=hsl
     have cF1:=r_framed (spL sub 0 0).1 (by omega)
     have cF2:=r_framed (spL sub 0 0).2 (by omega)
     have e1:=frm_le (spL sub 0 0).1;have e2:=frm_le (spL sub 0 0).2
     generalize hf1:frm (spL sub 0 0).1=A at *
     generalize hf2:frm (spL sub 0 0).2=Bm at *
     generalize (spL sub 0 0).1=X at *
     generalize (spL sub 0 0).2=Y at *
     replace hf1:=hide hf1;replace hf2:=hide hf2;clear cI hnd hsubg
     go_wp2_with (fail)
     refine cX.mono ?_;rintro e_ w3 ⟨rfl,hb3⟩;replace r1:=keep hb3 r1;replace hb:=Below.after hb hb3;clear cX hb3;have cG:=cF1 w3
     go_wp2_with (fail)
     refine cG.mono ?_;rintro e_ w4 ⟨rfl,hb3⟩;replace r1:=keep hb3 r1;replace hb:=Below.after hb hb3;clear cG hb3;have cG:=cF2 w4
     go_wp2_with (fail)
     refine cG.mono ?_;rintro e_ w5 ⟨rfl,hb3⟩;replace r1:=keep hb3 r1;replace hb:=Below.after hb hb3;clear cG hb3 cF1 cF2
     have p1:A*l≤4194305*4096:=Nat.mul_le_mul e1 (by omega)
     have p2:Bm*m≤4194305*4096:=Nat.mul_le_mul e2 hm4;have q1:=cpd_le (A*l);have q2:=cpd_le (Bm*m)
     have s1:GivesB w5 66 #[.int .i64 ((A:Int)*(l:Int))] (.int .i64 (cpd (A*l):Int)):=fun V _=>by have:=r_capped (A*l) V;rwa [Int.natCast_mul] at this
     have s2:GivesB w5 66 #[.int .i64 ((Bm:Int)*(m:Int))] (.int .i64 (cpd (Bm*m):Int)):=fun V _=>by have:=r_capped (Bm*m) V;rwa [Int.natCast_mul] at this
     have t1:GivesB w5 65 #[.int .i64 (cpd (A*l):Int)] (.int .i64 (frm (cpd (A*l)):Int)):=fun V _=>r_framed _ (by omega) V
     have t2:GivesB w5 65 #[.int .i64 (cpd (Bm*m):Int)] (.int .i64 (frm (cpd (Bm*m)):Int)):=fun V _=>r_framed _ (by omega) V
     have z1:=frm_le (cpd (A*l));have z2:=frm_le (cpd (Bm*m))
     have p3:0≤(A:Int)*(l:Int)∧(A:Int)*(l:Int)≤17179873280:=by rw[←Int.natCast_mul];omega
     have p4:0≤(Bm:Int)*(m:Int)∧(Bm:Int)*(m:Int)≤17179873280:=by rw[←Int.natCast_mul];omega
     generalize frm (cpd (A*l))=A3 at *
     generalize frm (cpd (Bm*m))=B3 at *
     generalize cpd (A*l)=A2 at *
     generalize cpd (Bm*m)=B2 at *
     have hc2:w5.cell? ⟨g,2,none⟩=some (.int .u64 (l:Int)):=by rw[cell_of_row _ g 2 _ _ _ r1];rfl
     have hc3:w5.cell? ⟨g,3,none⟩=some (.int .u64 (m:Int)):=by rw[cell_of_row _ g 3 _ _ _ r1];rfl
     have k2:∀p:Regrown,(grow (redrawn w5 p.d) p.os).cell? ⟨g,2,none⟩=some (.int .u64 (l:Int)):=fun p=>cell_regrown hc2 p.d p.os
     have k3:∀p:Regrown,(grow (redrawn w5 p.d) p.os).cell? ⟨g,3,none⟩=some (.int .u64 (m:Int)):=fun p=>cell_regrown hc3 p.d p.os
     go_wp2_with (fail)
     refine wp_region_quiet_below (by kernel_rfl) (by kernel_rfl) ?_
     go_big_quiet_step (fail);go_big_quiet_step (fail);go_big_quiet_step (fail);go_big_quiet_step (fail);go_big_quiet_step (fail);go_big_quiet_step (exact s1.re);go_big_quiet_step (exact t1.re);go_big_quiet_step (fail);go_big_quiet_step (fail);go_big_quiet_step (fail);go_big_quiet_step (fail);go_big_quiet_step (fail);go_big_quiet_step (exact s2.re);go_big_quiet_step (exact t2.re);go_big_quiet_step (fail);go_big_quiet_step (fail);refine wpQuiet_nil ?_;rintro _ ⟨p,rfl⟩;have hb2:=below_regrown w5 p.d p.os
     generalize grow (redrawn w5 p.d) p.os=w6 at *
     replace hb:=Below.after hb hb2;clear hb2 k2 k3 s1 s2 t1 t2;have cA:=r_capped (a+H+A3) w6;have cB:=r_capped (b+H+B3);have la:=cpd_le (a+H+A3);have lb:=cpd_le (b+H+B3);rw[Int.natCast_add,Int.natCast_add] at cA
     generalize cpd (a+H+A3)=a2 at *
     generalize hcb:cpd (b+H+B3)=b2 at *
     go_wp2_with (fail)
     refine cA.mono ?_;rintro e_ wa ⟨rfl,hba⟩;replace hb:=Below.after hb hba;clear cA hba;have cB1:=cB wa;rw[Int.natCast_add,Int.natCast_add] at cB1
     go_wp2_with (fail)
     refine cB1.mono ?_;rintro e_ wb ⟨rfl,hba⟩;replace hb:=Below.after hb hba;clear cB cB1 hba
     go_wp2_with (fail)
     refine⟨⟨k+1,a2,b2,by omega,by go_num,rfl,rfl,la,lb,he.out,hb⟩,?_⟩
     simp[intOf];omega
   ·have hd:decide ((k:Int)<(ts.length:Int))=false:=by simp;omega
    rw[List.drop_eq_nil_of_le (by omega),spL] at he
    replace he:=hide he;clear h hs ih
    go_wp2_with (fail)
    go_ret2
    exact⟨by rw[he.out];rfl,hb⟩
def vld (ts:List Slt):Int:=if lft ts 1 256<0 then 80 else if 4194304<(spL ts 0 0).2 then 2 else 0
theorem r_valid {W:World} {v:Value} {ts:List Slt} (h:Slo W v ts):∀(w:World),Below W.heap.size W w→Calls Tryz.prog 44 #[v] w fun e w'=>e=.returned (.int .i64 (vld ts))∧Below w.heap.size w w':=by
 intro w hw
 have cL:=r_left h w 1 256 hw (by omega) (by omega) (by omega) (by omega)
 by_cases h1:lft ts 1 256<0
 ·have d1:decide (lft ts 1 256<0)=true:=by simpa using h1
  have hv:Hid (vld ts=80):=hide (if_pos h1)
  generalize lft ts 1 256=x at *
  clear h1
  go_enter Tryz.func44,Tryz.ntmps44
  go_wp2_with (fail)
  refine cL.mono ?_;rintro e_ w1 ⟨rfl,hb⟩
  go_wp2_with (fail)
  go_ret
  exact⟨by rw[hv.out];rfl,hb⟩
 ·have d1:decide (lft ts 1 256<0)=false:=by simpa using h1
  have hg:=lft_gd ts 1 256 (by omega) (by omega)
  have hv0:vld ts=if 4194304<(spL ts 0 0).2 then 2 else 0:=if_neg h1
  generalize lft ts 1 256=x at *
  clear h1
  go_enter Tryz.func44,Tryz.ntmps44
  go_wp2_with (fail)
  refine cL.mono ?_;rintro e_ w1 ⟨rfl,hb⟩;have cS:=r_span h hg w1 (Below.after hw hb);clear cL
  generalize (spL ts 0 0).1=a at *
  generalize (spL ts 0 0).2=b at *
  by_cases h2:4194304<b
  ·have d2:decide ((b:Int)>4194304)=true:=by simp;omega
   rw[if_pos h2] at hv0
   replace hv0:=hide hv0;clear h2
   go_wp2_with (fail)
   refine cS.mono ?_;rintro e_ w2 ⟨rfl,hb2⟩;replace hb:=Below.after hb hb2
   go_wp2_with (fail)
   go_ret
   exact⟨by rw[hv0.out];rfl,hb⟩
  ·have d2:decide ((b:Int)>4194304)=false:=by simp;omega
   rw[if_neg h2] at hv0
   replace hv0:=hide hv0;clear h2
   go_wp2_with (fail)
   refine cS.mono ?_;rintro e_ w2 ⟨rfl,hb2⟩;replace hb:=Below.after hb hb2
   go_wp2_with (fail)
   go_ret
   exact⟨by rw[hv0.out];rfl,hb⟩
end Go.Proofs.YtmmlkfkpblokiaaGreatDoor
