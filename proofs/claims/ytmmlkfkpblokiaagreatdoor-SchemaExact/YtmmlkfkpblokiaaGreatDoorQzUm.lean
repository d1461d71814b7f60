import Derived.Test.YtmmlkfkpblokiaaGreatDoorQzUg
set_option maxRecDepth 100000
set_option maxHeartbeats 16000000
namespace Go.Proofs.YtmmlkfkpblokiaaGreatDoor
open Go Go.RowKit Go.Sort
attribute [local go_sem] setCell_drewN alloc_drewN
theorem Lc.lt {w:World} {g:Nat} {L:Int} (h:Lc w g L):g<w.heap.size:=(Array.getElem?_eq_some_iff.1 h).1
theorem cells5 {W:World} {G:Nat} {a0 a1 a2 a3 a4:Value} {T:TypeId} (R0:W.heap[G]? =some (.cells #[a0,a1,a2,a3,a4] T (0,0))):W.cell? ⟨G,0,none⟩=some a0∧W.cell? ⟨G,1,none⟩=some a1∧W.cell? ⟨G,2,none⟩=some a2∧W.cell? ⟨G,3,none⟩=some a3∧W.cell? ⟨G,4,none⟩=some a4:=
 ⟨cell_of_row _ _ _ _ _ _ R0,cell_of_row _ _ _ _ _ _ R0,cell_of_row _ _ _ _ _ _ R0,cell_of_row _ _ _ _ _ _ R0,cell_of_row _ _ _ _ _ _ R0⟩
theorem a_nested {W:World} {t:Slt} {u:Value} (hM:MsgC W u t.sub) (hk:nst t) (hok:Sok t) (hlm:t.least≤t.most) (w:World) (g:Nat) (deep L:Int) (hw:Below W.heap.size W w) (hg:W.heap.size≤g) (hL:Lc w g L) (hd1:0≤deep) (hd2:deep≤6) (hL0:0≤L) (hL1:L≤256):
 Calls Tryz.prog 113 #[.pointer (some ⟨g,0,none⟩),.agg #[.int .i64 t.no,.int .i64 t.kind,.int .u64 (t.least:Int),.int .u64 (t.most:Int),u],.int .i64 deep] w (OutS g w (psh t deep L) t):=by
 have R0:=hp1_0 w (.cells #[.int .i64 t.no,.int .i64 t.kind,.int .u64 (t.least:Int),.int .u64 (t.most:Int),u] 88);have hwa:Below w.heap.size w (w.alloc (.cells #[.int .i64 t.no,.int .i64 t.kind,.int .u64 (t.least:Int),.int .u64 (t.most:Int),u] 88)):=(Below.refl _ _).alloc (Nat.le_refl _) _;have hL':Lc (w.alloc (.cells #[.int .i64 t.no,.int .i64 t.kind,.int .u64 (t.least:Int),.int .u64 (t.most:Int),u] 88)) g L:=keep hwa hL;have lG:=hL.lt
 have cM:=hM _ g (deep+1) L (Below.after hw hwa) hg hL' (by omega) (by omega) hL0 hL1
 obtain⟨-,-,-,-,c4⟩:=cells5 R0;obtain⟨_,hkb,hlb,hmb⟩:=hok
 have hs8:∀(x:Int),t.kind=8→t.most=0→sfit t=true:=fun _ h1 h2=>by
  unfold sfit fitN;rw[h1,h2,show t.least=0 by omega];rfl
 have hs8':t.kind=8→t.most≠0→sfit t=false:=fun h1 h2=>by
  have:(((t.most:Nat):Int)==0)=false:=by simp;omega
  unfold sfit fitN;rw[h1,this];simp[fitB]
 have hs9:t.kind=9→t.most≤4096→sfit t=true:=fun h1 h2=>by
  have q1:decide ((t.least:Int)≤(t.most:Int))=true:=by simp;omega
  have q2:decide (((t.most:Nat):Int)≤4096)=true:=by simp;omega
  unfold sfit fitN;rw[h1,q1,q2];rfl
 have hs9':t.kind=9→¬t.most≤4096→sfit t=false:=fun h1 h2=>by
  have q2:decide (((t.most:Nat):Int)≤4096)=false:=by simp;omega
  unfold sfit fitN;rw[h1,q2];simp[fitB]
 have hp:sfit t=true→psh t deep L=pm t.sub (deep+1) L:=fun h=>by
  unfold psh;rw[if_neg (by rw[h];decide),if_pos hk]
 have hp':sfit t=false→psh t deep L= -1:=fun h=>if_pos h
 go_enter Tryz.func113,Tryz.ntmps113
 go_wp2_with (first|(refine wpList_box rfl 88 _ rfl _ rfl (bSl _) ?_)|fail)
 have hsz:w.heap.size≤(w.alloc (.cells #[.int .i64 t.no,.int .i64 t.kind,.int .u64 (t.least:Int),.int .u64 (t.most:Int),u] 88)).heap.size:=hwa.size
 generalize w.alloc (.cells #[.int .i64 t.no,.int .i64 t.kind,.int .u64 (t.least:Int),.int .u64 (t.most:Int),u] 88)=w0 at *
 refine cM.mono ?_;rintro e_ w1 ⟨hbm,hres⟩
 have R1:w1.heap[w.heap.size]? =_:=hbm.row R0 (by omega)
 obtain⟨-,c1,c2,c3,-⟩:=cells5 R1;have hB:But g w w1:=(But.of hwa).trans hbm;clear cM hM R0 c4 hL'
 have k1:∀p:Regrown,(grow (redrawn w1 p.d) p.os).cell? ⟨w.heap.size,1,none⟩=_:=fun p=>cell_regrown c1 p.d p.os
 have k2:∀p:Regrown,(grow (redrawn w1 p.d) p.os).cell? ⟨w.heap.size,2,none⟩=_:=fun p=>cell_regrown c2 p.d p.os
 have k3:∀p:Regrown,(grow (redrawn w1 p.d) p.os).cell? ⟨w.heap.size,3,none⟩=_:=fun p=>cell_regrown c3 p.d p.os
 rcases hk with hk|hk
 ·have hkd:(t.kind==8)=true:=by simp[hk]
  have hU:shp t=fun u=>(.iface 90 u:Value):=by
   funext u;unfold shp;rw[hk];rfl
  rcases hres with⟨hr0,v,rfl,hv,hl⟩|⟨hr0,rfl⟩
  ·obtain⟨va,vc,rfl⟩:=hv.form
   by_cases hm:t.most=0
   ·have hf:=hs8 0 hk hm
    have hmd:((t.most:Int)==0)=true:=by simp;omega
    clear hs8 hs8' hs9 hs9' hlm
    go_wp2_with (fail)
    refine wp_region_quiet_below (by kernel_rfl) (by kernel_rfl) ?_
    go_big_quiet_step (fail);go_big_quiet_step (fail);go_big_quiet_step (fail);go_big_quiet_step (fail);go_big_quiet_step (fail);go_big_quiet_step (fail);go_big_quiet_step (fail);go_big_quiet_step (fail);go_big_quiet_step (fail);go_big_quiet_step (fail);refine wpQuiet_nil ?_;rintro _ ⟨p,rfl⟩;have hbq:=below_regrown w1 p.d p.os
    generalize grow (redrawn w1 p.d) p.os=w2 at *
    clear k1 k2 k3;replace hB:=hB.trans (But.of hbq)
    go_wp2_with (fail)
    go_ret2
    refine⟨hB,.inl ⟨by rw[hp hf];exact hr0,_,?_,fun h7=>by rw[hk] at h7;exact absurd h7 (by decide),fun _=>hv.keep hbq.size fun b hb1 hb2=>⟨hbq.block b hb1,by omega⟩,by rw[hp hf];exact keep hbq hl⟩⟩
    rw[hU];rfl
   ·have hf:=hs8' hk hm
    have hmd:((t.most:Int)==0)=false:=by simp;omega
    clear hs8 hs8' hs9 hs9' hlm hv
    go_wp2_with (fail)
    refine wp_region_quiet_below (by kernel_rfl) (by kernel_rfl) ?_
    go_big_quiet_step (fail);go_big_quiet_step (fail);go_big_quiet_step (fail);go_big_quiet_step (fail);go_big_quiet_step (fail);go_big_quiet_step (fail);go_big_quiet_step (fail);go_big_quiet_step (fail);go_big_quiet_step (fail);go_big_quiet_step (fail);refine wpQuiet_nil ?_;rintro _ ⟨p,rfl⟩;have hbq:=below_regrown w1 p.d p.os
    generalize grow (redrawn w1 p.d) p.os=w2 at *
    clear k1 k2 k3;replace hB:=hB.trans (But.of hbq)
    go_wp2_with (fail)
    go_ret2
    exact⟨hB,.inr ⟨by rw[hp' hf];decide,_,rfl⟩⟩
  ·have hneg:psh t deep L<0:=by
    cases hf:sfit t with
    |true=>rw[hp hf];exact hr0
    |false=>rw[hp' hf];decide
   clear hs8 hs8' hs9 hs9' hlm
   go_wp2_with (fail)
   refine wp_region_quiet_below (by kernel_rfl) (by kernel_rfl) ?_
   go_big_quiet_step (fail);go_big_quiet_step (fail);go_big_quiet_step (fail);go_big_quiet_step (fail);go_big_quiet_step (fail);go_big_quiet_step (fail);go_big_quiet_step (fail);go_big_quiet_step (fail);go_big_quiet_step (fail);go_big_quiet_step (fail);refine wpQuiet_nil ?_;rintro _ ⟨p,rfl⟩;have hbq:=below_regrown w1 p.d p.os
   generalize grow (redrawn w1 p.d) p.os=w2 at *
   clear k1 k2 k3;replace hB:=hB.trans (But.of hbq)
   go_wp2_with (fail)
   go_ret2;exact⟨hB,.inr ⟨hneg,_,rfl⟩⟩
 ·have hk8:(t.kind==8)=false:=by rw[hk];decide
  have hU:shp t=fun u=>(.iface 190 (.agg #[.int .u64 (t.least:Int),.int .u64 (t.most:Int),u]):Value):=by
   funext u;unfold shp;rw[hk];rfl
  rcases hres with⟨hr0,v,rfl,hv,hl⟩|⟨hr0,rfl⟩
  ·obtain⟨va,vc,rfl⟩:=hv.form
   by_cases hm:t.most≤4096
   ·have hf:=hs9 hk hm
    have hmd:decide ((t.most:Int)≤4096)=true:=by simp;omega
    clear hs8 hs8' hs9 hs9' hlm
    go_wp2_with (fail)
    refine wp_region_quiet_below (by kernel_rfl) (by kernel_rfl) ?_
    go_big_quiet_step (fail);go_big_quiet_step (fail);go_big_quiet_step (fail);go_big_quiet_step (fail);go_big_quiet_step (fail);go_big_quiet_step (fail);go_big_quiet_step (fail);go_big_quiet_step (fail);go_big_quiet_step (fail);go_big_quiet_step (fail);go_big_quiet_step (fail);go_big_quiet_step (fail);go_big_quiet_step (fail);go_big_quiet_step (fail);go_big_quiet_step (fail);refine wpQuiet_nil ?_;rintro _ ⟨p,rfl⟩;have hbq:=below_regrown w1 p.d p.os
    generalize grow (redrawn w1 p.d) p.os=w2 at *
    clear k1 k2 k3;replace hB:=hB.trans (But.of hbq)
    go_wp2_with (fail)
    go_ret2
    refine⟨hB,.inl ⟨by rw[hp hf];exact hr0,_,?_,fun h7=>by rw[hk] at h7;exact absurd h7 (by decide),fun _=>hv.keep hbq.size fun b hb1 hb2=>⟨hbq.block b hb1,by omega⟩,by rw[hp hf];exact keep hbq hl⟩⟩
    rw[hU];rfl
   ·have hf:=hs9' hk hm
    have hmd:decide ((t.most:Int)≤4096)=false:=by simp;omega
    clear hs8 hs8' hs9 hs9' hlm hv
    go_wp2_with (fail)
    refine wp_region_quiet_below (by kernel_rfl) (by kernel_rfl) ?_
    go_big_quiet_step (fail);go_big_quiet_step (fail);go_big_quiet_step (fail);go_big_quiet_step (fail);go_big_quiet_step (fail);go_big_quiet_step (fail);go_big_quiet_step (fail);go_big_quiet_step (fail);go_big_quiet_step (fail);go_big_quiet_step (fail);go_big_quiet_step (fail);go_big_quiet_step (fail);go_big_quiet_step (fail);go_big_quiet_step (fail);go_big_quiet_step (fail);refine wpQuiet_nil ?_;rintro _ ⟨p,rfl⟩;have hbq:=below_regrown w1 p.d p.os
    generalize grow (redrawn w1 p.d) p.os=w2 at *
    clear k1 k2 k3;replace hB:=hB.trans (But.of hbq)
    go_wp2_with (fail)
    go_ret2
    exact⟨hB,.inr ⟨by rw[hp' hf];decide,_,rfl⟩⟩
  ·have hneg:psh t deep L<0:=by
    cases hf:sfit t with
    |true=>rw[hp hf];exact hr0
    |false=>rw[hp' hf];decide
   clear hs8 hs8' hs9 hs9' hlm
   go_wp2_with (fail)
   refine wp_region_quiet_below (by kernel_rfl) (by kernel_rfl) ?_
   go_big_quiet_step (fail);go_big_quiet_step (fail);go_big_quiet_step (fail);go_big_quiet_step (fail);go_big_quiet_step (fail);go_big_quiet_step (fail);go_big_quiet_step (fail);go_big_quiet_step (fail);go_big_quiet_step (fail);go_big_quiet_step (fail);go_big_quiet_step (fail);go_big_quiet_step (fail);go_big_quiet_step (fail);go_big_quiet_step (fail);go_big_quiet_step (fail);refine wpQuiet_nil ?_;rintro _ ⟨p,rfl⟩;have hbq:=below_regrown w1 p.d p.os
   generalize grow (redrawn w1 p.d) p.os=w2 at *
   clear k1 k2 k3;replace hB:=hB.trans (But.of hbq)
   go_wp2_with (fail)
   go_ret2;exact⟨hB,.inr ⟨hneg,_,rfl⟩⟩
theorem a_shape0 {W:World} {no k:Int} {l m:Nat} {sub:List Slt} {u:Value} (hS:Slo W u sub) (hM:MsgC W u sub) (hok:Sok (Slt.mk no k l m sub)) (w:World) (g:Nat) (deep L:Int) (hw:Below W.heap.size W w) (hg:W.heap.size≤g) (hL:Lc w g L) (hd1:0≤deep) (hd2:deep≤6) (hL0:0≤L) (hL1:L≤256):
 Calls Tryz.prog 88 #[.pointer (some ⟨g,0,none⟩),.agg #[.int .i64 no,.int .i64 k,.int .u64 (l:Int),.int .u64 (m:Int),u],.int .i64 deep] w (OutS g w (psh (Slt.mk no k l m sub) deep L) (Slt.mk no k l m sub)):=by
 have R0:=hp1_0 w (.cells #[.int .i64 no,.int .i64 k,.int .u64 (l:Int),.int .u64 (m:Int),u] 88);have hwa:Below w.heap.size w (w.alloc (.cells #[.int .i64 no,.int .i64 k,.int .u64 (l:Int),.int .u64 (m:Int),u] 88)):=(Below.refl _ _).alloc (Nat.le_refl _) _;have hL':Lc (w.alloc (.cells #[.int .i64 no,.int .i64 k,.int .u64 (l:Int),.int .u64 (m:Int),u] 88)) g L:=keep hwa hL;have lG:=hL.lt;have hB:But g w (w.alloc (.cells #[.int .i64 no,.int .i64 k,.int .u64 (l:Int),.int .u64 (m:Int),u] 88)):=But.of hwa;obtain⟨c0,c1,c2,c3,c4⟩:=cells5 R0;obtain⟨ao,cap,hu⟩:=hS.form;subst hu;have hkb:=hok.2.1;have hlb:l<18446744073709551616:=hok.2.2.1;have hmb:m<18446744073709551616:=hok.2.2.2
 have hp':fitN k (l:Int) (m:Int) sub.length=false→psh (Slt.mk no k l m sub) deep L<0:=fun h=>by unfold psh;rw[if_pos (show sfit (Slt.mk no k l m sub)=false from h)];decide
 have hp:fitN k (l:Int) (m:Int) sub.length=true→¬nst (Slt.mk no k l m sub)→psh (Slt.mk no k l m sub) deep L=L:=fun h h2=>by
  unfold psh;rw[if_neg (fun q=>by rw[show sfit (Slt.mk no k l m sub)=true from h] at q;cases q),if_neg h2]
 by_cases hlm:l≤m
 ·have d1:decide ((l:Int)>(m:Int))=false:=by simp;omega
  have d1':decide ((m:Int)<(l:Int))=false:=by simp;omega
  by_cases hn:nst (Slt.mk no k l m sub)
  ·have cN:=a_nested (t:=(Slt.mk no k l m sub)) hM hn hok hlm (w.alloc (.cells #[.int .i64 no,.int .i64 k,.int .u64 (l:Int),.int .u64 (m:Int),.slice ao sub.length cap] 88)) g deep L (Below.after hw hwa) hg hL' hd1 hd2 hL0 hL1
   simp only[Slt.no,Slt.kind,Slt.least,Slt.most] at cN
   generalize psh (Slt.mk no k l m sub) deep L=rr at *
   rcases hn with hk|hk
   ·have hk':k=8:=hk
    have hkd:(k==8)=true:=by rw[hk'];decide
    clear hk hk';clear hp hp' hM hok hkb
    go_enter Tryz.func88,Tryz.ntmps88
    go_wp2_with (first|(refine wpList_box rfl 88 _ rfl _ rfl (bSl _) ?_)|(refine wpList_load_want rfl 88 _ rfl w.heap.size rfl 88 _ (0,0) _ R0 Tryz.underlying88 rfl infoS ?_)|fail)
    generalize w.alloc (.cells #[.int .i64 no,.int .i64 k,.int .u64 (l:Int),.int .u64 (m:Int),.slice ao sub.length cap] 88)=w0 at *
    refine cN.mono ?_;rintro e_ w1 ⟨hb1,hres⟩
    rcases hres with⟨hr0,x,rfl,hq,hv,hl⟩|⟨hr0,x,rfl⟩
    ·go_wp2_with (fail)
     go_ret2
     exact⟨hB.trans hb1,.inl ⟨hr0,x,rfl,hq,fun h=>(hv h).keep (Nat.le_refl _) fun b _ hb=>⟨rfl,Nat.le_trans hB.size hb⟩,hl⟩⟩
    ·go_wp2_with (fail)
     go_ret2
     exact⟨hB.trans hb1,.inr ⟨hr0,_,rfl⟩⟩
   ·have hk':k=9:=hk
    have hkd:(k==8)=false:=by rw[hk'];decide
    have hkd9:(k==9)=true:=by rw[hk'];decide
    clear hk hk';clear hp hp' hM hok hkb
    go_enter Tryz.func88,Tryz.ntmps88
    go_wp2_with (first|(refine wpList_box rfl 88 _ rfl _ rfl (bSl _) ?_)|(refine wpList_load_want rfl 88 _ rfl w.heap.size rfl 88 _ (0,0) _ R0 Tryz.underlying88 rfl infoS ?_)|fail)
    generalize w.alloc (.cells #[.int .i64 no,.int .i64 k,.int .u64 (l:Int),.int .u64 (m:Int),.slice ao sub.length cap] 88)=w0 at *
    refine cN.mono ?_;rintro e_ w1 ⟨hb1,hres⟩
    rcases hres with⟨hr0,x,rfl,hq,hv,hl⟩|⟨hr0,x,rfl⟩
    ·go_wp2_with (fail)
     go_ret2
     exact⟨hB.trans hb1,.inl ⟨hr0,x,rfl,hq,fun h=>(hv h).keep (Nat.le_refl _) fun b _ hb=>⟨rfl,Nat.le_trans hB.size hb⟩,hl⟩⟩
    ·go_wp2_with (fail)
     go_ret2
     exact⟨hB.trans hb1,.inr ⟨hr0,_,rfl⟩⟩
  ·have n8:¬k=8:=fun h=>hn (.inl h)
   have n9:¬k=9:=fun h=>hn (.inr h)
   clear hM hS hok
   by_cases h0:sub.length=0
   ·have e0:((sub.length:Nat):Int)=0:=by omega
    rcases kind_cases k with rfl|rfl|rfl|rfl|rfl|rfl|rfl|rfl|rfl|⟨m1,m2,m3,m4,m5,m6,m7,m8,m9⟩
    ·have dr:decide ((l:Int)≤(m:Int))=true:=by simp;omega
     have hf:fitN 1 (l:Int) (m:Int) sub.length=true:=by unfold fitN;rw[dr,e0];rfl
     have hpp:=hp hf hn;clear hp hp' hf dr hkb n8 n9
     generalize sub.length=n at *
     subst h0;clear e0
     go_enter Tryz.func88,Tryz.ntmps88
     go_wp2_with (first|(refine wpList_box rfl 88 _ rfl _ rfl (bSl _) ?_)|fail)
     go_ret2
     exact⟨hB,.inl ⟨by rw[hpp];exact hL0,undef,rfl,fun h7=>absurd (show(1:Int)=7 from h7) (by decide),fun h=>absurd h hn,by rw[hpp];exact hL'⟩⟩
    ·have dr:decide ((l:Int)≤(m:Int))=true:=by simp;omega
     by_cases hm:m<4294967296
     ·have dm:decide ((m:Int)<4294967296)=true:=by simp;omega
      have dm2:decide ((m:Int)≤4294967295)=true:=by simp;omega
      have hf:fitN 2 (l:Int) (m:Int) sub.length=true:=by unfold fitN;rw[dr,dm,e0];rfl
      have hpp:=hp hf hn;clear hp hp' hf dr hkb n8 n9;clear hm dm
      generalize sub.length=n at *
      subst h0;clear e0
      have k1:∀p:Regrown,(grow (redrawn (w.alloc (.cells #[.int .i64 no,.int .i64 2,.int .u64 (l:Int),.int .u64 (m:Int),.slice ao 0 cap] 88)) p.d) p.os).cell? ⟨w.heap.size,1,none⟩=_:=fun p=>cell_regrown c1 p.d p.os
      have k2:∀p:Regrown,(grow (redrawn (w.alloc (.cells #[.int .i64 no,.int .i64 2,.int .u64 (l:Int),.int .u64 (m:Int),.slice ao 0 cap] 88)) p.d) p.os).cell? ⟨w.heap.size,2,none⟩=_:=fun p=>cell_regrown c2 p.d p.os
      have k3:∀p:Regrown,(grow (redrawn (w.alloc (.cells #[.int .i64 no,.int .i64 2,.int .u64 (l:Int),.int .u64 (m:Int),.slice ao 0 cap] 88)) p.d) p.os).cell? ⟨w.heap.size,3,none⟩=_:=fun p=>cell_regrown c3 p.d p.os
      go_enter Tryz.func88,Tryz.ntmps88
      go_wp2_with (first|(refine wpList_box rfl 88 _ rfl _ rfl (bSl _) ?_)|fail)
      generalize w.alloc (.cells #[.int .i64 no,.int .i64 2,.int .u64 (l:Int),.int .u64 (m:Int),.slice ao 0 cap] 88)=w0 at *
      refine wp_region_quiet_below (by kernel_rfl) (by kernel_rfl) ?_
      go_big_quiet_step (fail);go_big_quiet_step (fail);go_big_quiet_step (fail);go_big_quiet_step (fail);go_big_quiet_step (fail);go_big_quiet_step (fail);go_big_quiet_step (fail);go_big_quiet_step (fail);go_big_quiet_step (fail);go_big_quiet_step (fail);go_big_quiet_step (fail);refine wpQuiet_nil ?_;rintro _ ⟨p,rfl⟩;have hbq:=below_regrown w0 p.d p.os
      generalize grow (redrawn w0 p.d) p.os=w2 at *
      clear k1 k2 k3;replace hB:=hB.trans (But.of hbq);replace hL':=keep hbq hL'
      go_wp2_with (fail)
      go_ret2
      exact⟨hB,.inl ⟨by rw[hpp];exact hL0,undef,rfl,fun h7=>absurd (show(2:Int)=7 from h7) (by decide),fun h=>absurd h hn,by rw[hpp];exact hL'⟩⟩
     ·have dm:decide ((m:Int)<4294967296)=false:=by simp;omega
      have dm2:decide ((m:Int)≤4294967295)=false:=by simp;omega
      have hf:fitN 2 (l:Int) (m:Int) sub.length=false:=by unfold fitN;rw[dm];simp[fitB]
      have hpp:=hp' hf;clear hp hp' hf dr hkb n8 n9;clear hm dm
      generalize sub.length=n at *
      subst h0;clear e0
      have k1:∀p:Regrown,(grow (redrawn (w.alloc (.cells #[.int .i64 no,.int .i64 2,.int .u64 (l:Int),.int .u64 (m:Int),.slice ao 0 cap] 88)) p.d) p.os).cell? ⟨w.heap.size,1,none⟩=_:=fun p=>cell_regrown c1 p.d p.os
      have k2:∀p:Regrown,(grow (redrawn (w.alloc (.cells #[.int .i64 no,.int .i64 2,.int .u64 (l:Int),.int .u64 (m:Int),.slice ao 0 cap] 88)) p.d) p.os).cell? ⟨w.heap.size,2,none⟩=_:=fun p=>cell_regrown c2 p.d p.os
      have k3:∀p:Regrown,(grow (redrawn (w.alloc (.cells #[.int .i64 no,.int .i64 2,.int .u64 (l:Int),.int .u64 (m:Int),.slice ao 0 cap] 88)) p.d) p.os).cell? ⟨w.heap.size,3,none⟩=_:=fun p=>cell_regrown c3 p.d p.os
      go_enter Tryz.func88,Tryz.ntmps88
      go_wp2_with (first|(refine wpList_box rfl 88 _ rfl _ rfl (bSl _) ?_)|fail)
      generalize w.alloc (.cells #[.int .i64 no,.int .i64 2,.int .u64 (l:Int),.int .u64 (m:Int),.slice ao 0 cap] 88)=w0 at *
      refine wp_region_quiet_below (by kernel_rfl) (by kernel_rfl) ?_
      go_big_quiet_step (fail);go_big_quiet_step (fail);go_big_quiet_step (fail);go_big_quiet_step (fail);go_big_quiet_step (fail);go_big_quiet_step (fail);go_big_quiet_step (fail);go_big_quiet_step (fail);go_big_quiet_step (fail);go_big_quiet_step (fail);go_big_quiet_step (fail);refine wpQuiet_nil ?_;rintro _ ⟨p,rfl⟩;have hbq:=below_regrown w0 p.d p.os
      generalize grow (redrawn w0 p.d) p.os=w2 at *
      clear k1 k2 k3;replace hB:=hB.trans (But.of hbq);replace hL':=keep hbq hL'
      go_wp2_with (fail)
      go_ret2;exact⟨hB,.inr ⟨hpp,_,rfl⟩⟩
    ·have dr:decide ((l:Int)≤(m:Int))=true:=by simp;omega
     have hf:fitN 3 (l:Int) (m:Int) sub.length=true:=by unfold fitN;rw[dr,e0];rfl
     have hpp:=hp hf hn;clear hp hp' hf dr hkb n8 n9
     generalize sub.length=n at *
     subst h0;clear e0
     go_enter Tryz.func88,Tryz.ntmps88
     go_wp2_with (first|(refine wpList_box rfl 88 _ rfl _ rfl (bSl _) ?_)|fail)
     go_ret2
     exact⟨hB,.inl ⟨by rw[hpp];exact hL0,undef,rfl,fun h7=>absurd (show(3:Int)=7 from h7) (by decide),fun h=>absurd h hn,by rw[hpp];exact hL'⟩⟩
    ·have dr:decide ((l:Int)≤(m:Int))=true:=by simp;omega
     by_cases hm:m=0
     ·have dm:((m:Int)==0)=true:=by simp;omega
      have dz:((l:Int)==0)=true:=by simp;omega
      have hf:fitN 4 (l:Int) (m:Int) sub.length=true:=by unfold fitN;rw[dz,dm,e0];rfl
      have hpp:=hp hf hn;clear hp hp' hf dr hkb n8 n9;clear hm;clear dz
      generalize sub.length=n at *
      subst h0;clear e0
      have k1:∀p:Regrown,(grow (redrawn (w.alloc (.cells #[.int .i64 no,.int .i64 4,.int .u64 (l:Int),.int .u64 (m:Int),.slice ao 0 cap] 88)) p.d) p.os).cell? ⟨w.heap.size,1,none⟩=_:=fun p=>cell_regrown c1 p.d p.os
      have k2:∀p:Regrown,(grow (redrawn (w.alloc (.cells #[.int .i64 no,.int .i64 4,.int .u64 (l:Int),.int .u64 (m:Int),.slice ao 0 cap] 88)) p.d) p.os).cell? ⟨w.heap.size,2,none⟩=_:=fun p=>cell_regrown c2 p.d p.os
      have k3:∀p:Regrown,(grow (redrawn (w.alloc (.cells #[.int .i64 no,.int .i64 4,.int .u64 (l:Int),.int .u64 (m:Int),.slice ao 0 cap] 88)) p.d) p.os).cell? ⟨w.heap.size,3,none⟩=_:=fun p=>cell_regrown c3 p.d p.os
      go_enter Tryz.func88,Tryz.ntmps88
      go_wp2_with (first|(refine wpList_box rfl 88 _ rfl _ rfl (bSl _) ?_)|fail)
      generalize w.alloc (.cells #[.int .i64 no,.int .i64 4,.int .u64 (l:Int),.int .u64 (m:Int),.slice ao 0 cap] 88)=w0 at *
      refine wp_region_quiet_below (by kernel_rfl) (by kernel_rfl) ?_
      go_big_quiet_step (fail);go_big_quiet_step (fail);go_big_quiet_step (fail);go_big_quiet_step (fail);go_big_quiet_step (fail);go_big_quiet_step (fail);go_big_quiet_step (fail);refine wpQuiet_nil ?_;rintro _ ⟨p,rfl⟩;have hbq:=below_regrown w0 p.d p.os
      generalize grow (redrawn w0 p.d) p.os=w2 at *
      clear k1 k2 k3;replace hB:=hB.trans (But.of hbq);replace hL':=keep hbq hL'
      go_wp2_with (fail)
      go_ret2
      exact⟨hB,.inl ⟨by rw[hpp];exact hL0,undef,rfl,fun h7=>absurd (show(4:Int)=7 from h7) (by decide),fun h=>absurd h hn,by rw[hpp];exact hL'⟩⟩
     ·have dm:((m:Int)==0)=false:=by simp;omega
      have hf:fitN 4 (l:Int) (m:Int) sub.length=false:=by unfold fitN;rw[dm];simp[fitB]
      have hpp:=hp' hf;clear hp hp' hf dr hkb n8 n9;clear hm
      generalize sub.length=n at *
      subst h0;clear e0
      have k1:∀p:Regrown,(grow (redrawn (w.alloc (.cells #[.int .i64 no,.int .i64 4,.int .u64 (l:Int),.int .u64 (m:Int),.slice ao 0 cap] 88)) p.d) p.os).cell? ⟨w.heap.size,1,none⟩=_:=fun p=>cell_regrown c1 p.d p.os
      have k2:∀p:Regrown,(grow (redrawn (w.alloc (.cells #[.int .i64 no,.int .i64 4,.int .u64 (l:Int),.int .u64 (m:Int),.slice ao 0 cap] 88)) p.d) p.os).cell? ⟨w.heap.size,2,none⟩=_:=fun p=>cell_regrown c2 p.d p.os
      have k3:∀p:Regrown,(grow (redrawn (w.alloc (.cells #[.int .i64 no,.int .i64 4,.int .u64 (l:Int),.int .u64 (m:Int),.slice ao 0 cap] 88)) p.d) p.os).cell? ⟨w.heap.size,3,none⟩=_:=fun p=>cell_regrown c3 p.d p.os
      go_enter Tryz.func88,Tryz.ntmps88
      go_wp2_with (first|(refine wpList_box rfl 88 _ rfl _ rfl (bSl _) ?_)|fail)
      generalize w.alloc (.cells #[.int .i64 no,.int .i64 4,.int .u64 (l:Int),.int .u64 (m:Int),.slice ao 0 cap] 88)=w0 at *
      refine wp_region_quiet_below (by kernel_rfl) (by kernel_rfl) ?_
      go_big_quiet_step (fail);go_big_quiet_step (fail);go_big_quiet_step (fail);go_big_quiet_step (fail);go_big_quiet_step (fail);go_big_quiet_step (fail);go_big_quiet_step (fail);refine wpQuiet_nil ?_;rintro _ ⟨p,rfl⟩;have hbq:=below_regrown w0 p.d p.os
      generalize grow (redrawn w0 p.d) p.os=w2 at *
      clear k1 k2 k3;replace hB:=hB.trans (But.of hbq);replace hL':=keep hbq hL'
      go_wp2_with (fail)
      go_ret2;exact⟨hB,.inr ⟨hpp,_,rfl⟩⟩
    ·have dr:decide ((l:Int)≤(m:Int))=true:=by simp;omega
     by_cases hm:m≤4194304
     ·have dm:decide ((m:Int)≤4194304)=true:=by simp;omega
      have hf:fitN 5 (l:Int) (m:Int) sub.length=true:=by unfold fitN;rw[dr,dm,e0];rfl
      have hpp:=hp hf hn;clear hp hp' hf dr hkb n8 n9
      generalize sub.length=n at *
      subst h0;clear e0
      have k1:∀p:Regrown,(grow (redrawn (w.alloc (.cells #[.int .i64 no,.int .i64 5,.int .u64 (l:Int),.int .u64 (m:Int),.slice ao 0 cap] 88)) p.d) p.os).cell? ⟨w.heap.size,1,none⟩=_:=fun p=>cell_regrown c1 p.d p.os
      have k2:∀p:Regrown,(grow (redrawn (w.alloc (.cells #[.int .i64 no,.int .i64 5,.int .u64 (l:Int),.int .u64 (m:Int),.slice ao 0 cap] 88)) p.d) p.os).cell? ⟨w.heap.size,2,none⟩=_:=fun p=>cell_regrown c2 p.d p.os
      have k3:∀p:Regrown,(grow (redrawn (w.alloc (.cells #[.int .i64 no,.int .i64 5,.int .u64 (l:Int),.int .u64 (m:Int),.slice ao 0 cap] 88)) p.d) p.os).cell? ⟨w.heap.size,3,none⟩=_:=fun p=>cell_regrown c3 p.d p.os
      go_enter Tryz.func88,Tryz.ntmps88
      go_wp2_with (first|(refine wpList_box rfl 88 _ rfl _ rfl (bSl _) ?_)|fail)
      generalize w.alloc (.cells #[.int .i64 no,.int .i64 5,.int .u64 (l:Int),.int .u64 (m:Int),.slice ao 0 cap] 88)=w0 at *
      refine wp_region_quiet_below (by kernel_rfl) (by kernel_rfl) ?_
      go_big_quiet_step (fail);go_big_quiet_step (fail);go_big_quiet_step (fail);go_big_quiet_step (fail);go_big_quiet_step (fail);go_big_quiet_step (fail);go_big_quiet_step (fail);go_big_quiet_step (fail);go_big_quiet_step (fail);go_big_quiet_step (fail);go_big_quiet_step (fail);go_big_quiet_step (fail);go_big_quiet_step (fail);go_big_quiet_step (fail);refine wpQuiet_nil ?_;rintro _ ⟨p,rfl⟩;have hbq:=below_regrown w0 p.d p.os
      generalize grow (redrawn w0 p.d) p.os=w2 at *
      clear k1 k2 k3;replace hB:=hB.trans (But.of hbq);replace hL':=keep hbq hL'
      go_wp2_with (fail)
      go_ret2
      exact⟨hB,.inl ⟨by rw[hpp];exact hL0,undef,rfl,fun h7=>absurd (show(5:Int)=7 from h7) (by decide),fun h=>absurd h hn,by rw[hpp];exact hL'⟩⟩
     ·have dm:decide ((m:Int)≤4194304)=false:=by simp;omega
      have hf:fitN 5 (l:Int) (m:Int) sub.length=false:=by unfold fitN;rw[dm];simp[fitB]
      have hpp:=hp' hf;clear hp hp' hf dr hkb n8 n9
      generalize sub.length=n at *
      subst h0;clear e0
      have k1:∀p:Regrown,(grow (redrawn (w.alloc (.cells #[.int .i64 no,.int .i64 5,.int .u64 (l:Int),.int .u64 (m:Int),.slice ao 0 cap] 88)) p.d) p.os).cell? ⟨w.heap.size,1,none⟩=_:=fun p=>cell_regrown c1 p.d p.os
      have k2:∀p:Regrown,(grow (redrawn (w.alloc (.cells #[.int .i64 no,.int .i64 5,.int .u64 (l:Int),.int .u64 (m:Int),.slice ao 0 cap] 88)) p.d) p.os).cell? ⟨w.heap.size,2,none⟩=_:=fun p=>cell_regrown c2 p.d p.os
      have k3:∀p:Regrown,(grow (redrawn (w.alloc (.cells #[.int .i64 no,.int .i64 5,.int .u64 (l:Int),.int .u64 (m:Int),.slice ao 0 cap] 88)) p.d) p.os).cell? ⟨w.heap.size,3,none⟩=_:=fun p=>cell_regrown c3 p.d p.os
      go_enter Tryz.func88,Tryz.ntmps88
      go_wp2_with (first|(refine wpList_box rfl 88 _ rfl _ rfl (bSl _) ?_)|fail)
      generalize w.alloc (.cells #[.int .i64 no,.int .i64 5,.int .u64 (l:Int),.int .u64 (m:Int),.slice ao 0 cap] 88)=w0 at *
      refine wp_region_quiet_below (by kernel_rfl) (by kernel_rfl) ?_
      go_big_quiet_step (fail);go_big_quiet_step (fail);go_big_quiet_step (fail);go_big_quiet_step (fail);go_big_quiet_step (fail);go_big_quiet_step (fail);go_big_quiet_step (fail);go_big_quiet_step (fail);go_big_quiet_step (fail);go_big_quiet_step (fail);go_big_quiet_step (fail);go_big_quiet_step (fail);go_big_quiet_step (fail);go_big_quiet_step (fail);refine wpQuiet_nil ?_;rintro _ ⟨p,rfl⟩;have hbq:=below_regrown w0 p.d p.os
      generalize grow (redrawn w0 p.d) p.os=w2 at *
      clear k1 k2 k3;replace hB:=hB.trans (But.of hbq);replace hL':=keep hbq hL'
      go_wp2_with (fail)
      go_ret2;exact⟨hB,.inr ⟨hpp,_,rfl⟩⟩
    ·have dr:decide ((l:Int)≤(m:Int))=true:=by simp;omega
     by_cases hm:m≤4194304
     ·have dm:decide ((m:Int)≤4194304)=true:=by simp;omega
      have hf:fitN 6 (l:Int) (m:Int) sub.length=true:=by unfold fitN;rw[dr,dm,e0];rfl
      have hpp:=hp hf hn;clear hp hp' hf dr hkb n8 n9
      generalize sub.length=n at *
      subst h0;clear e0
      have k1:∀p:Regrown,(grow (redrawn (w.alloc (.cells #[.int .i64 no,.int .i64 6,.int .u64 (l:Int),.int .u64 (m:Int),.slice ao 0 cap] 88)) p.d) p.os).cell? ⟨w.heap.size,1,none⟩=_:=fun p=>cell_regrown c1 p.d p.os
      have k2:∀p:Regrown,(grow (redrawn (w.alloc (.cells #[.int .i64 no,.int .i64 6,.int .u64 (l:Int),.int .u64 (m:Int),.slice ao 0 cap] 88)) p.d) p.os).cell? ⟨w.heap.size,2,none⟩=_:=fun p=>cell_regrown c2 p.d p.os
      have k3:∀p:Regrown,(grow (redrawn (w.alloc (.cells #[.int .i64 no,.int .i64 6,.int .u64 (l:Int),.int .u64 (m:Int),.slice ao 0 cap] 88)) p.d) p.os).cell? ⟨w.heap.size,3,none⟩=_:=fun p=>cell_regrown c3 p.d p.os
      go_enter Tryz.func88,Tryz.ntmps88
      go_wp2_with (first|(refine wpList_box rfl 88 _ rfl _ rfl (bSl _) ?_)|fail)
      generalize w.alloc (.cells #[.int .i64 no,.int .i64 6,.int .u64 (l:Int),.int .u64 (m:Int),.slice ao 0 cap] 88)=w0 at *
      refine wp_region_quiet_below (by kernel_rfl) (by kernel_rfl) ?_
      go_big_quiet_step (fail);go_big_quiet_step (fail);go_big_quiet_step (fail);go_big_quiet_step (fail);go_big_quiet_step (fail);go_big_quiet_step (fail);go_big_quiet_step (fail);go_big_quiet_step (fail);go_big_quiet_step (fail);go_big_quiet_step (fail);go_big_quiet_step (fail);go_big_quiet_step (fail);go_big_quiet_step (fail);go_big_quiet_step (fail);refine wpQuiet_nil ?_;rintro _ ⟨p,rfl⟩;have hbq:=below_regrown w0 p.d p.os
      generalize grow (redrawn w0 p.d) p.os=w2 at *
      clear k1 k2 k3;replace hB:=hB.trans (But.of hbq);replace hL':=keep hbq hL'
      go_wp2_with (fail)
      go_ret2
      exact⟨hB,.inl ⟨by rw[hpp];exact hL0,undef,rfl,fun h7=>absurd (show(6:Int)=7 from h7) (by decide),fun h=>absurd h hn,by rw[hpp];exact hL'⟩⟩
     ·have dm:decide ((m:Int)≤4194304)=false:=by simp;omega
      have hf:fitN 6 (l:Int) (m:Int) sub.length=false:=by unfold fitN;rw[dm];simp[fitB]
      have hpp:=hp' hf;clear hp hp' hf dr hkb n8 n9
      generalize sub.length=n at *
      subst h0;clear e0
      have k1:∀p:Regrown,(grow (redrawn (w.alloc (.cells #[.int .i64 no,.int .i64 6,.int .u64 (l:Int),.int .u64 (m:Int),.slice ao 0 cap] 88)) p.d) p.os).cell? ⟨w.heap.size,1,none⟩=_:=fun p=>cell_regrown c1 p.d p.os
      have k2:∀p:Regrown,(grow (redrawn (w.alloc (.cells #[.int .i64 no,.int .i64 6,.int .u64 (l:Int),.int .u64 (m:Int),.slice ao 0 cap] 88)) p.d) p.os).cell? ⟨w.heap.size,2,none⟩=_:=fun p=>cell_regrown c2 p.d p.os
      have k3:∀p:Regrown,(grow (redrawn (w.alloc (.cells #[.int .i64 no,.int .i64 6,.int .u64 (l:Int),.int .u64 (m:Int),.slice ao 0 cap] 88)) p.d) p.os).cell? ⟨w.heap.size,3,none⟩=_:=fun p=>cell_regrown c3 p.d p.os
      go_enter Tryz.func88,Tryz.ntmps88
      go_wp2_with (first|(refine wpList_box rfl 88 _ rfl _ rfl (bSl _) ?_)|fail)
      generalize w.alloc (.cells #[.int .i64 no,.int .i64 6,.int .u64 (l:Int),.int .u64 (m:Int),.slice ao 0 cap] 88)=w0 at *
      refine wp_region_quiet_below (by kernel_rfl) (by kernel_rfl) ?_
      go_big_quiet_step (fail);go_big_quiet_step (fail);go_big_quiet_step (fail);go_big_quiet_step (fail);go_big_quiet_step (fail);go_big_quiet_step (fail);go_big_quiet_step (fail);go_big_quiet_step (fail);go_big_quiet_step (fail);go_big_quiet_step (fail);go_big_quiet_step (fail);go_big_quiet_step (fail);go_big_quiet_step (fail);go_big_quiet_step (fail);refine wpQuiet_nil ?_;rintro _ ⟨p,rfl⟩;have hbq:=below_regrown w0 p.d p.os
      generalize grow (redrawn w0 p.d) p.os=w2 at *
      clear k1 k2 k3;replace hB:=hB.trans (But.of hbq);replace hL':=keep hbq hL'
      go_wp2_with (fail)
      go_ret2;exact⟨hB,.inr ⟨hpp,_,rfl⟩⟩
    ·have dr:decide ((l:Int)≤(m:Int))=true:=by simp;omega
     by_cases hz:l=0
     ·have dz:((l:Int)==0)=true:=by simp;omega
      by_cases hm:m≤9007199254740992
      ·have dm:decide ((m:Int)≤9007199254740992)=true:=by simp;omega
       have hf:fitN 7 (l:Int) (m:Int) sub.length=true:=by unfold fitN;rw[dz,dm,e0];rfl
       have hpp:=hp hf hn;clear hp hp' hf dr hkb n8 n9;clear hz
       have r7:=fun w:World=>run_convert_int_float (P:=Tryz.prog) (w:=w) 23 181 .u64 .f64 (m:Int) (by kernel_rfl) (by kernel_rfl)
       generalize sub.length=n at *
       subst h0;clear e0
       have k1:∀p:Regrown,(grow (redrawn (w.alloc (.cells #[.int .i64 no,.int .i64 7,.int .u64 (l:Int),.int .u64 (m:Int),.slice ao 0 cap] 88)) p.d) p.os).cell? ⟨w.heap.size,1,none⟩=_:=fun p=>cell_regrown c1 p.d p.os
       have k2:∀p:Regrown,(grow (redrawn (w.alloc (.cells #[.int .i64 no,.int .i64 7,.int .u64 (l:Int),.int .u64 (m:Int),.slice ao 0 cap] 88)) p.d) p.os).cell? ⟨w.heap.size,2,none⟩=_:=fun p=>cell_regrown c2 p.d p.os
       have k3:∀p:Regrown,(grow (redrawn (w.alloc (.cells #[.int .i64 no,.int .i64 7,.int .u64 (l:Int),.int .u64 (m:Int),.slice ao 0 cap] 88)) p.d) p.os).cell? ⟨w.heap.size,3,none⟩=_:=fun p=>cell_regrown c3 p.d p.os
       go_enter Tryz.func88,Tryz.ntmps88
       go_wp2_with (first|(refine wpList_box rfl 88 _ rfl _ rfl (bSl _) ?_)|fail)
       generalize w.alloc (.cells #[.int .i64 no,.int .i64 7,.int .u64 (l:Int),.int .u64 (m:Int),.slice ao 0 cap] 88)=w0 at *
       refine wp_region_quiet_below (by kernel_rfl) (by kernel_rfl) ?_
       go_big_quiet_step (fail);go_big_quiet_step (fail);go_big_quiet_step (fail);go_big_quiet_step (fail);go_big_quiet_step (fail);go_big_quiet_step (fail);go_big_quiet_step (fail);go_big_quiet_step (fail);go_big_quiet_step (fail);go_big_quiet_step (fail);go_big_quiet_step (fail);go_big_quiet_step (fail);go_big_quiet_step (fail);go_big_quiet_step (fail);go_big_quiet_step (fail);refine wpQuiet_nil ?_;rintro _ ⟨p,rfl⟩;have hbq:=below_regrown w0 p.d p.os
       generalize grow (redrawn w0 p.d) p.os=w2 at *
       clear k1 k2 k3;replace hB:=hB.trans (But.of hbq);replace hL':=keep hbq hL'
       go_wp2_with (fail)
       go_ret2
       exact⟨hB,.inl ⟨by rw[hpp];exact hL0,(.float .f64 (floatOfInt .f64 (m:Int))),rfl,fun _=>rfl,fun h=>absurd h hn,by rw[hpp];exact hL'⟩⟩
      ·have dm:decide ((m:Int)≤9007199254740992)=false:=by simp;omega
       have hf:fitN 7 (l:Int) (m:Int) sub.length=false:=by unfold fitN;rw[dm];simp[fitB]
       have hpp:=hp' hf;clear hp hp' hf dr hkb n8 n9;clear hz
       have r7:=fun w:World=>run_convert_int_float (P:=Tryz.prog) (w:=w) 23 181 .u64 .f64 (m:Int) (by kernel_rfl) (by kernel_rfl)
       generalize sub.length=n at *
       subst h0;clear e0
       have k1:∀p:Regrown,(grow (redrawn (w.alloc (.cells #[.int .i64 no,.int .i64 7,.int .u64 (l:Int),.int .u64 (m:Int),.slice ao 0 cap] 88)) p.d) p.os).cell? ⟨w.heap.size,1,none⟩=_:=fun p=>cell_regrown c1 p.d p.os
       have k2:∀p:Regrown,(grow (redrawn (w.alloc (.cells #[.int .i64 no,.int .i64 7,.int .u64 (l:Int),.int .u64 (m:Int),.slice ao 0 cap] 88)) p.d) p.os).cell? ⟨w.heap.size,2,none⟩=_:=fun p=>cell_regrown c2 p.d p.os
       have k3:∀p:Regrown,(grow (redrawn (w.alloc (.cells #[.int .i64 no,.int .i64 7,.int .u64 (l:Int),.int .u64 (m:Int),.slice ao 0 cap] 88)) p.d) p.os).cell? ⟨w.heap.size,3,none⟩=_:=fun p=>cell_regrown c3 p.d p.os
       go_enter Tryz.func88,Tryz.ntmps88
       go_wp2_with (first|(refine wpList_box rfl 88 _ rfl _ rfl (bSl _) ?_)|fail)
       generalize w.alloc (.cells #[.int .i64 no,.int .i64 7,.int .u64 (l:Int),.int .u64 (m:Int),.slice ao 0 cap] 88)=w0 at *
       refine wp_region_quiet_below (by kernel_rfl) (by kernel_rfl) ?_
       go_big_quiet_step (fail);go_big_quiet_step (fail);go_big_quiet_step (fail);go_big_quiet_step (fail);go_big_quiet_step (fail);go_big_quiet_step (fail);go_big_quiet_step (fail);go_big_quiet_step (fail);go_big_quiet_step (fail);go_big_quiet_step (fail);go_big_quiet_step (fail);go_big_quiet_step (fail);go_big_quiet_step (fail);go_big_quiet_step (fail);go_big_quiet_step (fail);refine wpQuiet_nil ?_;rintro _ ⟨p,rfl⟩;have hbq:=below_regrown w0 p.d p.os
       generalize grow (redrawn w0 p.d) p.os=w2 at *
       clear k1 k2 k3;replace hB:=hB.trans (But.of hbq);replace hL':=keep hbq hL'
       go_wp2_with (fail)
       go_ret2;exact⟨hB,.inr ⟨hpp,_,rfl⟩⟩
     ·have dm:((l:Int)==0)=false:=by simp;omega
      have hf:fitN 7 (l:Int) (m:Int) sub.length=false:=by unfold fitN;rw[dm];simp[fitB]
      have hpp:=hp' hf;clear hp hp' hf dr hkb n8 n9;clear hz
      have r7:=fun w:World=>run_convert_int_float (P:=Tryz.prog) (w:=w) 23 181 .u64 .f64 (m:Int) (by kernel_rfl) (by kernel_rfl)
      generalize sub.length=n at *
      subst h0;clear e0
      have k1:∀p:Regrown,(grow (redrawn (w.alloc (.cells #[.int .i64 no,.int .i64 7,.int .u64 (l:Int),.int .u64 (m:Int),.slice ao 0 cap] 88)) p.d) p.os).cell? ⟨w.heap.size,1,none⟩=_:=fun p=>cell_regrown c1 p.d p.os
      have k2:∀p:Regrown,(grow (redrawn (w.alloc (.cells #[.int .i64 no,.int .i64 7,.int .u64 (l:Int),.int .u64 (m:Int),.slice ao 0 cap] 88)) p.d) p.os).cell? ⟨w.heap.size,2,none⟩=_:=fun p=>cell_regrown c2 p.d p.os
      have k3:∀p:Regrown,(grow (redrawn (w.alloc (.cells #[.int .i64 no,.int .i64 7,.int .u64 (l:Int),.int .u64 (m:Int),.slice ao 0 cap] 88)) p.d) p.os).cell? ⟨w.heap.size,3,none⟩=_:=fun p=>cell_regrown c3 p.d p.os
      go_enter Tryz.func88,Tryz.ntmps88
      go_wp2_with (first|(refine wpList_box rfl 88 _ rfl _ rfl (bSl _) ?_)|fail)
      generalize w.alloc (.cells #[.int .i64 no,.int .i64 7,.int .u64 (l:Int),.int .u64 (m:Int),.slice ao 0 cap] 88)=w0 at *
      refine wp_region_quiet_below (by kernel_rfl) (by kernel_rfl) ?_
      go_big_quiet_step (fail);go_big_quiet_step (fail);go_big_quiet_step (fail);go_big_quiet_step (fail);go_big_quiet_step (fail);go_big_quiet_step (fail);go_big_quiet_step (fail);go_big_quiet_step (fail);go_big_quiet_step (fail);go_big_quiet_step (fail);go_big_quiet_step (fail);go_big_quiet_step (fail);go_big_quiet_step (fail);go_big_quiet_step (fail);go_big_quiet_step (fail);refine wpQuiet_nil ?_;rintro _ ⟨p,rfl⟩;have hbq:=below_regrown w0 p.d p.os
      generalize grow (redrawn w0 p.d) p.os=w2 at *
      clear k1 k2 k3;replace hB:=hB.trans (But.of hbq);replace hL':=keep hbq hL'
      go_wp2_with (fail)
      go_ret2;exact⟨hB,.inr ⟨hpp,_,rfl⟩⟩
    ·exact absurd rfl n8
    ·exact absurd rfl n9
    ·have hf:fitN k (l:Int) (m:Int) sub.length=false:=by simp[fitN,fitB,m1,m2,m3,m4,m5,m6,m7,m8,m9]
     have hpp:=hp' hf
     clear hp hp' hf hkb
     have b1:(k==1)=false:=by simpa using m1
     have b2:(k==2)=false:=by simpa using m2
     have b3:(k==3)=false:=by simpa using m3
     have b4:(k==4)=false:=by simpa using m4
     have b5:(k==5)=false:=by simpa using m5
     have b6:(k==6)=false:=by simpa using m6
     have b7:(k==7)=false:=by simpa using m7
     have b8:(k==8)=false:=by simpa using m8
     have b9:(k==9)=false:=by simpa using m9
     generalize sub.length=n at *
     subst h0;clear e0 m1 m2 m3 m4 m5 m6 m7 m8 m9 n8 n9
     go_enter Tryz.func88,Tryz.ntmps88
     go_wp2_with (first|(refine wpList_box rfl 88 _ rfl _ rfl (bSl _) ?_)|fail)
     go_ret2;exact⟨hB,.inr ⟨hpp,_,rfl⟩⟩
   ·have hf:fitN k (l:Int) (m:Int) sub.length=false:=by
     have q:((sub.length:Int)==0)=false:=beq_eq_false_iff_ne.2 (by omega)
     rcases kind_cases k with hk|hk|hk|hk|hk|hk|hk|hk|hk|⟨m1,m2,m3,m4,m5,m6,m7,m8,m9⟩
     all_goals first|exact absurd hk n8|exact absurd hk n9|(rw[hk];unfold fitN;rw[q];simp[fitB];done)|(simp[fitN,fitB,m1,m2,m3,m4,m5,m6,m7,m8,m9];done)
    have hpp:=hp' hf;clear hp hp' hf hkb
    generalize sub.length=n at *
    have dn:decide ((n:Int)>0)=true:=by simp;omega
    have dn':decide (0<(n:Int))=true:=by simp;omega
    have hnp:0<n:=by omega
    have b8:(k==8)=false:=by simpa using n8
    have b9:(k==9)=false:=by simpa using n9
    clear n8 n9
    go_enter Tryz.func88,Tryz.ntmps88
    go_wp2_with (first|(refine wpList_box rfl 88 _ rfl _ rfl (bSl _) ?_)|fail)
    go_ret2;exact⟨hB,.inr ⟨hpp,_,rfl⟩⟩
 ·have hf:fitN k (l:Int) (m:Int) sub.length=false:=by
   have q:decide ((l:Int)≤(m:Int))=false:=by simp;omega
   have q2:((l:Int)==0)=false:=by simp;omega
   rcases kind_cases k with hk|hk|hk|hk|hk|hk|hk|hk|hk|⟨m1,m2,m3,m4,m5,m6,m7,m8,m9⟩
   all_goals first|(rw[hk];unfold fitN;rw[q];simp[fitB];done)|(rw[hk];unfold fitN;rw[q2];simp[fitB];done)|(simp[fitN,fitB,m1,m2,m3,m4,m5,m6,m7,m8,m9];done)
  have hpp:=hp' hf
  have d1:decide ((l:Int)>(m:Int))=true:=by simp;omega
  have d1':decide ((m:Int)<(l:Int))=true:=by simp;omega
  clear hp hp' hf hM hS hok hkb
  go_enter Tryz.func88,Tryz.ntmps88
  go_wp2_with (first|(refine wpList_box rfl 88 _ rfl _ rfl (bSl _) ?_)|fail)
  go_ret2;exact⟨hB,.inr ⟨hpp,_,rfl⟩⟩
theorem a_shape {W:World} {t:Slt} {u:Value} (hS:Slo W u t.sub) (hM:MsgC W u t.sub) (hok:Sok t) (w:World) (g:Nat) (deep L:Int) (hw:Below W.heap.size W w) (hg:W.heap.size≤g) (hL:Lc w g L) (hd1:0≤deep) (hd2:deep≤6) (hL0:0≤L) (hL1:L≤256):
 Calls Tryz.prog 88 #[.pointer (some ⟨g,0,none⟩),.agg (srow t u).toArray,.int .i64 deep] w (OutS g w (psh t deep L) t):=by
 obtain⟨no,k,l,m,sub⟩:=t;exact a_shape0 hS hM hok w g deep L hw hg hL hd1 hd2 hL0 hL1
theorem wp_append_gen {P:Program} {w:World} {o:Oper} {a:Act} {K:Act→World→Prop} {Q:Exit→Act→World→Prop} (s x:Operand) (t:TypeId)
 (ho:o.op=.call {callee:=.builtin .append,args:=#[s,x],argTypes:=#[t,t]})
 (base:Nat) (e:TypeId) (i:TypeInfo) (z:Value) (size bytes:Nat) (ht:P.underlying t=some (.slice e)) (hi:P.info? e=some i) (hz:i.zero=some z)
 (hsize:i.size=size) (hby:i.bytes=bytes) (hzs:z.cells.size=size) (hsz:0<size)
 (v:Value) (n:Nat) (xs:List Value) (hs:a.eval s=v) (hown:w.ownsRow base e size v n xs)
 (ad:Addr) (m c:Nat) (news:List Value) (hx:a.eval x=.slice (some ad) m c) (hl:news.length=m*size) (hm:0<m) (hnews:∀j u,news[j]? =some u→w.cell? (ad.add j)=some u) (h1:∀u∈news,u.oneCell'=true)
 (h63:n+m≤maxLen) (hbytes:(n+m)*bytes≤140737488355328) (hbase:base≤w.heap.size)
 (h:∀v' w',w'.ownsRow base e size v' (n+m) (xs++news)→w.grownBy w' v.ownBlock→((v'.ownBlock=v.ownBlock∧v.ownBlock≠none)∨∃k,v'.ownBlock=some k∧w.heap.size≤k)→K (a.put o.dst v') w'):o.wp P a w K Q:=by
 obtain⟨v',w',hr,h2,h3,h4⟩:=run_append_own (P:=P) w base t o.type e i z size bytes ht hi hz hsize hby hzs hsz _ n xs hown ad m c news hl hnews h1 h63 hbytes hbase
 have key:(v'.ownBlock=v.ownBlock∧v.ownBlock≠none)∨∃k,v'.ownBlock=some k∧w.heap.size≤k:=by
  rcases hown.2 with⟨rfl,hn0⟩|⟨g1,cap1,cur,rfl,hbg,hg,hnc,hcm,hcs,htake⟩
  ·have hown2:w.ownsRow w.heap.size e size nS n xs:=⟨hown.1,.inl ⟨rfl,hn0⟩⟩
   obtain⟨v2,w2,hr2,g2,_,g4⟩:=run_append_own (P:=P) w w.heap.size t o.type e i z size bytes ht hi hz hsize hby hzs hsz _ n xs hown2 ad m c news hl hnews h1 h63 hbytes (Nat.le_refl _)
   have he:=hr.symm.trans hr2
   injection he with e1 e2
   subst e1
   rcases g2.2 with⟨hv,_⟩|⟨g,cap,_,hv,hbg,_⟩
   ·have:=g4.1 hv
    omega
   ·exact .inr ⟨g,by rw[hv];rfl,hbg⟩
  ·by_cases hroom:n+m≤cap1
   ·have hr2:=run_append_room (P:=P) w t o.type e i ht hi g1 n cap1 cur hg ad m c news (by rw[hsize];exact hl) hnews h1 hroom (by rw[hsize,hl,hcs,←Nat.add_mul];exact Nat.mul_le_mul_right _ hroom)
    have he:=hr.symm.trans hr2
    injection he with e1 e2
    exact .inl ⟨by rw[e1];rfl,by simp[Value.ownBlock]⟩
   ·have holds:∀j u,xs[j]? =some u→w.cell? ((⟨g1,0,none⟩:Addr).add j)=some u:=hown.cells (g:=g1) rfl
    have hr2:=run_append_grow (P:=P) w t o.type e i z ht hi hz ⟨g1,0,none⟩ n cap1 xs (by rw[hsize];exact hown.1) holds ad m c news (by rw[hsize];exact hl) hnews (by omega) (by simp only[maxLen] at h63;omega) (growslice_fits (by omega) (by rw[hby];exact hbytes))
    have he:=hr.symm.trans hr2
    injection he with e1 e2
    exact .inr ⟨w.heap.size,by rw[e1];rfl,Nat.le_refl _⟩
 unfold Oper.wp execOp;simp only[ho,resolve,invoke,builtin,Sem.run_bind,Sem.run_pure,Result.andThen_ok,List.map_toArray,List.map_cons,List.map_nil,hs,hx,hr];exact h v' w' h2 h3 key
theorem info24:∃i,Tryz.prog.info? 24=some i∧i.zero=some nS∧i.size=1∧i.bytes=24:=⟨_,rfl,rfl,rfl,rfl⟩
def gv (us:List Value) (i:Nat):Value:=us.getD i undef
def Its (W:World) (base:Nat) (v:Value) (us:List Value) (ps:List (List B)):Prop:=
 W.ownsRow base 24 1 v us.length us∧us.length=ps.length∧(∀i,i<us.length→Own W base (gv us i) (gp ps i))∧
 (∀i,i<us.length→∀k,(gv us i).ownBlock=some k→v.ownBlock≠some k)∧(∀i j,i<j→j<us.length→∀k,(gv us i).ownBlock=some k→(gv us j).ownBlock≠some k)
theorem own_keep_row {W V:World} {b:Nat} {e:TypeId} {sz:Nat} {v:Value} {n:Nat} {xs:List Value} (h:W.ownsRow b e sz v n xs) (hb:Below W.heap.size W V):V.ownsRow b e sz v n xs:=by
 obtain⟨h1,h2|⟨g,cap,cur,rfl,hb2,hg,h3⟩⟩:=h
 ·exact⟨h1,.inl h2⟩
 ·exact⟨h1,.inr ⟨g,cap,cur,rfl,hb2,Go.Proofs.YtmmlkfkpblokiaaGreatDoor.keep hb hg,h3⟩⟩
theorem own_high_row {W:World} {b:Nat} {e:TypeId} {sz:Nat} {v:Value} {n:Nat} {xs:List Value} (h:W.ownsRow b e sz v n xs):∀k,v.ownBlock=some k→b≤k∧k<W.heap.size:=by
 obtain⟨h1,⟨rfl,_⟩|⟨g,cap,cur,rfl,hb,hg,_⟩⟩:=h
 ·intro k hk;cases hk
 ·intro k hk
  have:g=k:=by simpa[Value.ownBlock] using hk
  have:=lt_of_row hg;omega
theorem Its.keep {W V:World} {b:Nat} {v:Value} {us:List Value} {ps:List (List B)} (h:Its W b v us ps) (hb:Below W.heap.size W V):Its V b v us ps:=
 ⟨own_keep_row h.1 hb,h.2.1,fun i hi=>(h.2.2.1 i hi).keep hb,h.2.2.2⟩
theorem its_nil (W:World) (b:Nat):Its W b nS [] []:=⟨⟨rfl,.inl ⟨rfl,rfl⟩⟩,rfl,fun i hi=>by simp at hi,fun i hi=>by simp at hi,fun i j _ hj=>by simp at hj⟩
theorem its_empty (W:World):Its (W.alloc (.cells #[] 24)) W.heap.size (.slice (some ⟨W.heap.size,0,none⟩) 0 0) [] []:=
 ⟨⟨rfl,.inr ⟨W.heap.size,0,#[],rfl,Nat.le_refl _,hp1_0 _ _,Nat.le_refl _,by decide,rfl,rfl⟩⟩,rfl,fun i hi=>by simp at hi,fun i hi=>by simp at hi,fun i j _ hj=>by simp at hj⟩
theorem gv_app_lo {us:List Value} {u:Value} {i:Nat} (h:i<us.length):gv (us++[u]) i=gv us i:=by
 rw[gv,gv,List.getD_eq_getElem?_getD,List.getElem?_append_left h,←List.getD_eq_getElem?_getD]
theorem gv_app_hi {us:List Value} {u:Value}:gv (us++[u]) us.length=u:=by
 rw[gv,List.getD_eq_getElem?_getD,List.getElem?_append_right (Nat.le_refl _),Nat.sub_self];rfl
theorem gp_app_lo {ps:List (List B)} {p:List B} {i:Nat} (h:i<ps.length):gp (ps++[p]) i=gp ps i:=by
 rw[gp,gp,List.getD_eq_getElem?_getD,List.getElem?_append_left h,←List.getD_eq_getElem?_getD]
theorem gp_app_hi {ps:List (List B)} {p:List B}:gp (ps++[p]) ps.length=p:=by
 rw[gp,List.getD_eq_getElem?_getD,List.getElem?_append_right (Nat.le_refl _),Nat.sub_self];rfl
theorem Its.snoc {W W':World} {b L:Nat} {v v':Value} {us:List Value} {ps:List (List B)} {u:Value} {p:List B} (h:Its W b v us ps) (hL:∀k,v.ownBlock=some k→k<L) (hLi:∀i,i<us.length→∀k,(gv us i).ownBlock=some k→k<L) (hbL:b≤L)
 (hu:Own W L u p) (ho:W'.ownsRow b 24 1 v' (us.length+1) (us++[u])) (hg:W.grownBy W' v.ownBlock) (hk:(v'.ownBlock=v.ownBlock∧v.ownBlock≠none)∨∃k,v'.ownBlock=some k∧W.heap.size≤k):Its W' b v' (us++[u]) (ps++[p]):=by
 obtain⟨h1,h2,h3,h4,h5⟩:=h;have hu2:Own W' L u p:=hu.grown2 hg hL
 have hlu:∀k,u.ownBlock=some k→L≤k∧k<W.heap.size:=fun k e=>⟨own_low hu k e,own_high hu k e⟩
 refine⟨by rw[List.length_append,List.length_singleton];exact ho,by rw[List.length_append,List.length_append,h2];rfl,fun i hi=>?_,fun i hi k e=>?_,fun i j hij hj k e=>?_⟩
 ·rw[List.length_append,List.length_singleton] at hi
  rcases Nat.lt_or_ge i us.length with q|q
  ·rw[gv_app_lo q,gp_app_lo (by omega)]
   have ho3:=h3 i q
   obtain⟨q1,q2|⟨g,cap,cur,q2,hb2,hr,q3⟩⟩:=ho3
   ·exact⟨q1,.inl q2⟩
   ·refine⟨q1,.inr ⟨g,cap,cur,q2,hb2,(hg.block g (lt_of_row hr) (fun e=>?_)).trans hr,q3⟩⟩
    exact h4 i q g (by rw[q2];rfl) e.symm
  ·obtain rfl:i=us.length:=by omega
   rw[gv_app_hi,h2,gp_app_hi]
   obtain⟨q1,q2|⟨g,cap,cur,q2,hb2,hr⟩⟩:=hu2
   ·exact⟨q1,.inl q2⟩
   ·exact⟨q1,.inr ⟨g,cap,cur,q2,by omega,hr⟩⟩
 ·rw[List.length_append,List.length_singleton] at hi
  intro e2
  rcases hk with⟨hk1,hk2⟩|⟨k',hk1,hk2⟩
  ·rw[hk1] at e2
   rcases Nat.lt_or_ge i us.length with q|q
   ·rw[gv_app_lo q] at e
    exact h4 i q k e e2
   ·obtain rfl:i=us.length:=by omega
    rw[gv_app_hi] at e
    have:=hL k e2;have:=(hlu k e).1;omega
  ·rw[hk1] at e2
   cases e2
   rcases Nat.lt_or_ge i us.length with q|q
   ·rw[gv_app_lo q] at e
    have:=own_high (h3 i q) _ e
    omega
   ·obtain rfl:i=us.length:=by omega
    rw[gv_app_hi] at e
    have:=(hlu _ e).2;omega
 ·rw[List.length_append,List.length_singleton] at hj
  rcases Nat.lt_or_ge j us.length with q|q
  ·rw[gv_app_lo (by omega)] at e
   rw[gv_app_lo q]
   exact h5 i j hij q k e
  ·obtain rfl:j=us.length:=by omega
   rw[gv_app_lo hij] at e
   rw[gv_app_hi];intro e2;have:=hLi i hij k e;have:=(hlu k e2).1;omega
theorem Its.high {W:World} {b:Nat} {v:Value} {us:List Value} {ps:List (List B)} (h:Its W b v us ps):(∀k,v.ownBlock=some k→k<W.heap.size)∧∀i,i<us.length→∀k,(gv us i).ownBlock=some k→k<W.heap.size:=
 ⟨fun k e=>(own_high_row h.1 k e).2,fun i hi k e=>own_high (h.2.2.1 i hi) k e⟩
theorem Its.pcb {W:World} {b:Nat} {v:Value} {us:List Value} {ps:List (List B)} (h:Its W b v us ps) (hl:ps.length≤5864062014634) (hp:∀i,i<ps.length→(gp ps i).length≤140737488351232):PcB W v ps:=by
 obtain⟨h1,h2,h3,_⟩:=h;have h1':=h1
 obtain⟨_,⟨rfl,h0⟩|⟨g,cap,cur,rfl,hb,hg,hn,hm,hs,ht⟩⟩:=h1'
 ·refine⟨none,0,by rw[←h2,h0],hl,fun _=>rfl,fun i hi=>?_⟩
  omega
 ·refine⟨some ⟨g,0,none⟩,cap,by rw[h2],hl,fun e=>(by cases e),fun i hi=>⟨g,0,gv us i,rfl,lt_of_row hg,?_,(h3 i (by omega)).bysB (by have:=hp i hi;omega),hp i hi⟩⟩
  have:=h1.cells (g:=g) rfl i (gv us i) (by rw[gv,List.getD_eq_getElem?_getD,List.getElem?_eq_getElem (by omega)];rfl)
  rw[addr_add] at this;exact this
theorem new_cell1 (wr:World) (u:Value) (t:TypeId):∀j x,[u][j]? =some x→(wr.alloc (.cells #[u] t)).cell? ((⟨wr.heap.size,0,none⟩:Addr).add j)=some x:=by
 intro j x hx
 have hj:j=0:=by
  have:=(List.getElem?_eq_some_iff.1 hx).1
  simp at this
  exact this
 subst hj
 simp at hx
 subst hx;rw[addr_add];have hg:(wr.alloc (.cells #[u] t)).heap[wr.heap.size]? =some (.cells #[u] t (0,0)):=hp1_0 wr _;simp only[World.cell?,hg];rfl
theorem wpList_append_I {w:World} {ops:Array Oper} {rest:List Oper} {o:Oper} {a:Act} {Q:Exit→Act→World→Prop} (hgd:o.guard=none) (s x:Operand)
 (ho:o.op=.call {callee:=.builtin .append,args:=#[s,x],argTypes:=#[122,122]})
 (base:Nat) (v:Value) (us:List Value) (ps:List (List B)) (hs:a.eval s=v) (L:Nat) (hI:Its w base v us ps) (hL:∀k,v.ownBlock=some k→k<L) (hLi:∀i,i<us.length→∀k,(gv us i).ownBlock=some k→k<L) (hbL:base≤L)
 (u:Value) (p:List B) (hu:Own w L u p) (g:Nat) (hx:a.eval x=.slice (some ⟨g,0,none⟩) 1 1) (hnews:∀j x,[u][j]? =some x→w.cell? ((⟨g,0,none⟩:Addr).add j)=some x)
 (hlen:ps.length≤5864062014634) (hbase:base≤w.heap.size)
 (h:∀v' w',Its w' base v' (us++[u]) (ps++[p])→w.grownBy w' v.ownBlock→wpList Tryz.prog ops Q rest (a.put o.dst v') w'):wpList Tryz.prog ops Q (o::rest) a w:=by
 obtain⟨i0,hi,hz0,hz1,hz2⟩:=info24;have hul:=hI.2.1
 refine wpList_plain hgd fun _ hK=>wp_append_gen s x 122 ho base 24 i0 nS 1 24 Tryz.underlying122 hi hz0 hz1 hz2 rfl (by decide) v us.length us hs hI.1 ⟨g,0,none⟩ 1 1 [u] hx rfl (by decide) hnews (fun x hx=>?_) (by unfold maxLen;omega) (by omega) hbase (fun v' w' h1 h2 h3=>hK _ _ (h v' w' (hI.snoc hL hLi hbL hu h1 h2 h3) h2))
 simp at hx
 subst hx;obtain⟨ao,cap,rfl⟩:=slen_own hu;rfl
end Go.Proofs.YtmmlkfkpblokiaaGreatDoor
